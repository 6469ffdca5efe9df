/- AreaCuts: part 18. -/
import Derived.Deep.AppendSrc
import Derived.Test.YthbhngeiiabagaaGreatKAreaCuts12
import Derived.Test.YthbhngeiiabagaaGreatKAreaCuts14
import Derived.Test.YthbhngeiiabagaaGreatKAreaCuts15
import Derived.Test.YthbhngeiiabagaaGreatKAreaCuts16
import Derived.Test.YthbhngeiiabagaaGreatKAreaCuts17
set_option linter.unusedVariables false
set_option maxRecDepth 100000
set_option maxHeartbeats 16000000
variable {w:Go.World}
namespace Go.Proofs.YthbhngeiiabagaaGreat
section
open Go Go.RowKit
theorem QG.fit {s:Bool} {A B:Option Addr} {n c m d K k:Nat} {v:Rat} (h:QG w s A n c B m d v K) (h1:v.num.natAbs < B64 ^ k) (h2:v.den < B64 ^ k):QG w s A n c B m d v k:=by
 obtain ⟨⟨a1,a2,a3,_⟩,⟨b1,b2,_⟩⟩:=h
 refine ⟨⟨a1,a2,a3,?_⟩,⟨b1,b2,?_⟩⟩
 · rw [← a2.1];exact Qaq Qae h1
 · rw [← b1.1];exact Qaq Qae h2
theorem Each.fit {L:List PV} {l:List (Rat × Rat)} {K k:Nat} (h:Each PV.PG w L l K) (hB:BL k l):Each PV.PG w L l k :=
 ⟨h.1,fun i p u hp hu=>by
  have h2:=h.2 i p u hp hu
  have hb:=hB u (List.mem_of_getElem? hu)
  exact ⟨QG.fit h2.1 hb.1 hb.2.1,QG.fit h2.2 hb.2.2.1 hb.2.2.2⟩⟩
theorem Each.pr {L:List PV} {l:List (Rat × Rat)} {k:Nat} (h:Each PV.PG w L l k):Each PV.PR w L l k:=⟨h.1,fun i p u hp hu=>PG.pr (h.2 i p u hp hu)⟩
theorem Ln.sv {T:TypeId} {base:Nat} {A:Option Addr} {n c:Nat} {L:List PV} (h:Ln T base w (.slice A n c) L):SV w A (pvs L):=fun hn=>by
 have hl:0 < L.length:=by rw [show (pvs L).length=L.length*6 from Qas Qa9 L] at hn;omega
 obtain ⟨g,c2,hv,_,_,hg,_⟩:=h.at_ (List.getElem?_eq_getElem hl)
 simp only [Value.slice.injEq] at hv
 refine ⟨g,0,hv.1,hg,fun j u hu=>?_⟩
 have:=h.own.cells (g:=g) (by rw [hv.1];rfl) j u hu
 rwa [Qce] at this
def hasB (l:List (Rat × Rat)) (px py:Rat):Bool:=decide (3≤l.length) && (List.range (l.length+1)).all fun i=>match (Qav l)[i]?,(Qav l)[i+1]? with | some u,some v=>decide (0≤Qbz u.1 u.2 v.1 v.2 px py) | _,_=>true
theorem QlM (l:List (Rat × Rat)) (px py:Rat):hasB l px py=true ↔ QkC l px py:=by
 unfold hasB QkC
 rw [Bool.and_eq_true,decide_eq_true_iff,List.all_eq_true]
 refine and_congr Iff.rfl ⟨fun h i u v hu hv=>?_,fun h i _=>?_⟩
 · have hi : i < l.length + 1 := by
     have h7:=(List.getElem?_eq_some_iff.1 hu).1
     unfold Qav at h7;rw [List.length_append,List.length_take] at h7;omega
   have:=h i (List.mem_range.2 hi)
   rw [hu,hv] at this
   exact of_decide_eq_true this
 · split
   · rename_i u v hu hv;exact decide_eq_true (h i u v hu hv)
   · rfl
def convB (l:List (Rat × Rat)):Bool:=((List.range (l.length+1)).all fun i=>match (Qav (QbV l))[i]?,(Qav (QbV l))[i+1]? with | some u,some v=>decide (Qcd u.1 u.2 v.1 v.2) | _,_=>true) && decide (Qfp (Qav (QbV l)) l.length=1)
theorem QoT (l:List (Rat × Rat)):convB l=true ↔ QdC l:=by
 unfold convB QdC
 rw [Bool.and_eq_true,decide_eq_true_iff,List.all_eq_true]
 refine and_congr ⟨fun h i u v hu hv=>?_,fun h i _=>?_⟩ Iff.rfl
 · have hi : i < l.length + 1 := by
     have h7:=(List.getElem?_eq_some_iff.1 hu).1
     have h8:=QcE l
     unfold Qav at h7;rw [List.length_append,List.length_take] at h7;omega
   have:=h i (List.mem_range.2 hi)
   rw [hu,hv] at this
   exact of_decide_eq_true this
 · split
   · rename_i u v hu hv;exact decide_eq_true (h i u v hu hv)
   · rfl
theorem Qo3 {l:List (Rat × Rat)} {a b c d a' b' c' d':Rat} (h:QiV l a b c d) (g:QiV l a' b' c' d'):a=a'∧b=b'∧c=c'∧d=d':=by
 obtain ⟨⟨i1,u1,e1,rfl⟩,⟨i2,u2,e2,rfl⟩,⟨i3,u3,e3,rfl⟩,⟨i4,u4,e4,rfl⟩,h5⟩:=h
 obtain ⟨⟨j1,v1,f1,rfl⟩,⟨j2,v2,f2,rfl⟩,⟨j3,v3,f3,rfl⟩,⟨j4,v4,f4,rfl⟩,g5⟩:=g
 have a1:=h5 _ _ f1;have a2:=h5 _ _ f2;have a3:=h5 _ _ f3;have a4:=h5 _ _ f4;have b1:=g5 _ _ e1;have b2:=g5 _ _ e2;have b3:=g5 _ _ e3;have b4:=g5 _ _ e4
 exact ⟨by grind,by grind,by grind,by grind⟩
def sqL:List (Rat × Rat):=[(Rat.divInt 0 1,Rat.divInt 0 1),(Rat.divInt 2 1,Rat.divInt 0 1),(Rat.divInt 2 1,Rat.divInt 2 1),(Rat.divInt 0 1,Rat.divInt 2 1)]
def sqH:List (Rat × Rat):=[(Rat.divInt 0 1,Rat.divInt 0 1),(Rat.divInt 2 1,Rat.divInt 2 1),(Rat.divInt 0 1,Rat.divInt 2 1)]
theorem Qqa:QaH (QaN (Rat.divInt 0 1) (Rat.divInt 0 1) (Rat.divInt 2 1) (Rat.divInt 2 1)) sqL=sqH:=by decide +kernel
theorem Qrt:QiV sqL (Rat.divInt 0 1) (Rat.divInt 0 1) (Rat.divInt 2 1) (Rat.divInt 2 1):=by
 refine ⟨⟨0,_,rfl,rfl⟩,⟨0,_,rfl,rfl⟩,⟨1,_,rfl,rfl⟩,⟨2,_,rfl,rfl⟩,fun i u hu=>?_⟩
 match i,hu with
 | 0,hu=>cases hu;decide +kernel
 | 1,hu=>cases hu;decide +kernel
 | 2,hu=>cases hu;decide +kernel
 | 3,hu=>cases hu;decide +kernel
 | i+4,hu=>cases hu
theorem wk8_bl:BL 1 sqH:=by
 intro u hu
 simp only [sqH,List.mem_cons,List.not_mem_nil,or_false] at hu
 rcases hu with rfl | rfl | rfl <;> decide +kernel
theorem wk8_t4:(⟨(Qpp (Qcn sqL)).toArray⟩:ByteArray)=⟨#[52]⟩:=by
 rw [show Qcn sqL=Rat.divInt 4 1 by decide +kernel,Qrq (a:=4) (by decide +kernel) (by decide +kernel) (QnR (d:=4) (by decide) (by decide) rfl)];rfl
theorem wk8_t2:(⟨(Qpp (Qcn sqH)).toArray⟩:ByteArray)=⟨#[50]⟩:=by
 rw [show Qcn sqH=Rat.divInt 2 1 by decide +kernel,Qrq (a:=2) (by decide +kernel) (by decide +kernel) (QnR (d:=2) (by decide) (by decide) rfl)];rfl
theorem Qqu:true=true ↔ QdC sqL:=by
 rw [← QoT];exact ⟨fun _=>by decide +kernel,fun _=>rfl⟩
theorem QpH:true=true ↔ QkC sqL (Rat.divInt 1 1) (Rat.divInt 1 1):=by
 rw [← QlM];exact ⟨fun _=>by decide +kernel,fun _=>rfl⟩
theorem QpG:false=true ↔ QkC sqL (Rat.divInt 3 1) (Rat.divInt 1 1):=by
 rw [← QlM];exact ⟨fun h=>by (cases h),fun h=>absurd h (by decide +kernel)⟩
theorem wk8_s0:decide (Rat.divInt 0 1=Rat.divInt 0 1∧Rat.divInt 0 1=Rat.divInt 0 1)=true:=by decide +kernel
theorem wk8_s2:decide (Rat.divInt 2 1=Rat.divInt 2 1∧Rat.divInt 2 1=Rat.divInt 2 1)=true:=by decide +kernel
theorem Qcf (w:World):Calls Tryz.prog 10 #[] w fun e w'=>e=.returned (.bool true)∧Below w.heap.size w w':=by
 have hb:Below w.heap.size w w:=Below.refl _ _
 go_enter Tryz.func10,Tryz.ntmps10
 go_upto_region 3 with (first
  | (go_at_call 23;(with_reducible refine (Qpe 0 0 (by decide) (by decide) (by decide) (by decide) _).mono ?_);rintro e w_p1 ⟨s_p1,A_p1,n_p1,c_p1,B_p1,m_p1,d_p1,t_p1,E_p1,i_p1,e_p1,F_p1,j_p1,f_p1,rfl,p1,hh⟩
     replace hb:=Qaj hb hh)
  | (go_at_call 23;(with_reducible refine (Qpe 2 0 (by decide) (by decide) (by decide) (by decide) _).mono ?_);rintro e w_p2 ⟨s_p2,A_p2,n_p2,c_p2,B_p2,m_p2,d_p2,t_p2,E_p2,i_p2,e_p2,F_p2,j_p2,f_p2,rfl,p2,hh⟩
     (try replace p1:=p1.below hh);replace hb:=Qaj hb hh)
  | (go_at_call 23;(with_reducible refine (Qpe 2 2 (by decide) (by decide) (by decide) (by decide) _).mono ?_);rintro e w_p3 ⟨s_p3,A_p3,n_p3,c_p3,B_p3,m_p3,d_p3,t_p3,E_p3,i_p3,e_p3,F_p3,j_p3,f_p3,rfl,p3,hh⟩
     (try replace p1:=p1.below hh);(try replace p2:=p2.below hh);replace hb:=Qaj hb hh)
  | (go_at_call 23;(with_reducible refine (Qpe 0 2 (by decide) (by decide) (by decide) (by decide) _).mono ?_);rintro e w_p4 ⟨s_p4,A_p4,n_p4,c_p4,B_p4,m_p4,d_p4,t_p4,E_p4,i_p4,e_p4,F_p4,j_p4,f_p4,rfl,p4,hh⟩
     (try replace p1:=p1.below hh);(try replace p2:=p2.below hh);(try replace p3:=p3.below hh);replace hb:=Qaj hb hh))
 have hBL:BoxAt 29 (w_p4.alloc (Obj.cells #[Value.bool s_p1,Value.slice A_p1 n_p1 c_p1,Value.slice B_p1 m_p1 d_p1,Value.bool t_p1,Value.slice E_p1 i_p1 e_p1,Value.slice F_p1 j_p1 f_p1,Value.bool s_p2,Value.slice A_p2 n_p2 c_p2,Value.slice B_p2 m_p2 d_p2,Value.bool t_p2,Value.slice E_p2 i_p2 e_p2,Value.slice F_p2 j_p2 f_p2,Value.bool s_p3,Value.slice A_p3 n_p3 c_p3,Value.slice B_p3 m_p3 d_p3,Value.bool t_p3,Value.slice E_p3 i_p3 e_p3,Value.slice F_p3 j_p3 f_p3,Value.bool s_p4,Value.slice A_p4 n_p4 c_p4,Value.slice B_p4 m_p4 d_p4,Value.bool t_p4,Value.slice E_p4 i_p4 e_p4,Value.slice F_p4 j_p4 f_p4] 29)) w_p4.heap.size (pvs [(PV.mk s_p1 A_p1 n_p1 c_p1 B_p1 m_p1 d_p1 t_p1 E_p1 i_p1 e_p1 F_p1 j_p1 f_p1),(PV.mk s_p2 A_p2 n_p2 c_p2 B_p2 m_p2 d_p2 t_p2 E_p2 i_p2 e_p2 F_p2 j_p2 f_p2),(PV.mk s_p3 A_p3 n_p3 c_p3 B_p3 m_p3 d_p3 t_p3 E_p3 i_p3 e_p3 F_p3 j_p3 f_p3),(PV.mk s_p4 A_p4 n_p4 c_p4 B_p4 m_p4 d_p4 t_p4 E_p4 i_p4 e_p4 F_p4 j_p4 f_p4)]).toArray:=⟨heap_alloc_new w_p4 _,Qdv (QcJ _)⟩
 have hh:Below w_p4.heap.size w_p4 (w_p4.alloc (Obj.cells #[Value.bool s_p1,Value.slice A_p1 n_p1 c_p1,Value.slice B_p1 m_p1 d_p1,Value.bool t_p1,Value.slice E_p1 i_p1 e_p1,Value.slice F_p1 j_p1 f_p1,Value.bool s_p2,Value.slice A_p2 n_p2 c_p2,Value.slice B_p2 m_p2 d_p2,Value.bool t_p2,Value.slice E_p2 i_p2 e_p2,Value.slice F_p2 j_p2 f_p2,Value.bool s_p3,Value.slice A_p3 n_p3 c_p3,Value.slice B_p3 m_p3 d_p3,Value.bool t_p3,Value.slice E_p3 i_p3 e_p3,Value.slice F_p3 j_p3 f_p3,Value.bool s_p4,Value.slice A_p4 n_p4 c_p4,Value.slice B_p4 m_p4 d_p4,Value.bool t_p4,Value.slice E_p4 i_p4 e_p4,Value.slice F_p4 j_p4 f_p4] 29)):=(Below.refl _ _).alloc (Nat.le_refl _) _
 replace p1:=p1.below hh;replace p2:=p2.below hh;replace p3:=p3.below hh;replace p4:=p4.below hh;replace hb:=Qaj hb hh
 have hEL:Each PV.PG (w_p4.alloc (Obj.cells #[Value.bool s_p1,Value.slice A_p1 n_p1 c_p1,Value.slice B_p1 m_p1 d_p1,Value.bool t_p1,Value.slice E_p1 i_p1 e_p1,Value.slice F_p1 j_p1 f_p1,Value.bool s_p2,Value.slice A_p2 n_p2 c_p2,Value.slice B_p2 m_p2 d_p2,Value.bool t_p2,Value.slice E_p2 i_p2 e_p2,Value.slice F_p2 j_p2 f_p2,Value.bool s_p3,Value.slice A_p3 n_p3 c_p3,Value.slice B_p3 m_p3 d_p3,Value.bool t_p3,Value.slice E_p3 i_p3 e_p3,Value.slice F_p3 j_p3 f_p3,Value.bool s_p4,Value.slice A_p4 n_p4 c_p4,Value.slice B_p4 m_p4 d_p4,Value.bool t_p4,Value.slice E_p4 i_p4 e_p4,Value.slice F_p4 j_p4 f_p4] 29)) [(PV.mk s_p1 A_p1 n_p1 c_p1 B_p1 m_p1 d_p1 t_p1 E_p1 i_p1 e_p1 F_p1 j_p1 f_p1),(PV.mk s_p2 A_p2 n_p2 c_p2 B_p2 m_p2 d_p2 t_p2 E_p2 i_p2 e_p2 F_p2 j_p2 f_p2),(PV.mk s_p3 A_p3 n_p3 c_p3 B_p3 m_p3 d_p3 t_p3 E_p3 i_p3 e_p3 F_p3 j_p3 f_p3),(PV.mk s_p4 A_p4 n_p4 c_p4 B_p4 m_p4 d_p4 t_p4 E_p4 i_p4 e_p4 F_p4 j_p4 f_p4)] sqL 1:=⟨rfl,fun i p u hp hu=>by
  match i,hp,hu with
  | 0,hp,hu=>cases hp;cases hu;exact p1
  | 1,hp,hu=>cases hp;cases hu;exact p2
  | 2,hp,hu=>cases hp;cases hu;exact p3
  | 3,hp,hu=>cases hp;cases hu;exact p4
  | i+4,hp,hu=>cases hp⟩
 have hSL:=hBL.sv
 have hLn:[(PV.mk s_p1 A_p1 n_p1 c_p1 B_p1 m_p1 d_p1 t_p1 E_p1 i_p1 e_p1 F_p1 j_p1 f_p1),(PV.mk s_p2 A_p2 n_p2 c_p2 B_p2 m_p2 d_p2 t_p2 E_p2 i_p2 e_p2 F_p2 j_p2 f_p2),(PV.mk s_p3 A_p3 n_p3 c_p3 B_p3 m_p3 d_p3 t_p3 E_p3 i_p3 e_p3 F_p3 j_p3 f_p3),(PV.mk s_p4 A_p4 n_p4 c_p4 B_p4 m_p4 d_p4 t_p4 E_p4 i_p4 e_p4 F_p4 j_p4 f_p4)].length=4:=rfl
 clear p1 p2 p3 p4 hBL hh
 generalize (w_p4.alloc (Obj.cells #[Value.bool s_p1,Value.slice A_p1 n_p1 c_p1,Value.slice B_p1 m_p1 d_p1,Value.bool t_p1,Value.slice E_p1 i_p1 e_p1,Value.slice F_p1 j_p1 f_p1,Value.bool s_p2,Value.slice A_p2 n_p2 c_p2,Value.slice B_p2 m_p2 d_p2,Value.bool t_p2,Value.slice E_p2 i_p2 e_p2,Value.slice F_p2 j_p2 f_p2,Value.bool s_p3,Value.slice A_p3 n_p3 c_p3,Value.slice B_p3 m_p3 d_p3,Value.bool t_p3,Value.slice E_p3 i_p3 e_p3,Value.slice F_p3 j_p3 f_p3,Value.bool s_p4,Value.slice A_p4 n_p4 c_p4,Value.slice B_p4 m_p4 d_p4,Value.bool t_p4,Value.slice E_p4 i_p4 e_p4,Value.slice F_p4 j_p4 f_p4] 29))=W1 at *
 generalize w_p4.heap.size=gL at *
 generalize [(PV.mk s_p1 A_p1 n_p1 c_p1 B_p1 m_p1 d_p1 t_p1 E_p1 i_p1 e_p1 F_p1 j_p1 f_p1),(PV.mk s_p2 A_p2 n_p2 c_p2 B_p2 m_p2 d_p2 t_p2 E_p2 i_p2 e_p2 F_p2 j_p2 f_p2),(PV.mk s_p3 A_p3 n_p3 c_p3 B_p3 m_p3 d_p3 t_p3 E_p3 i_p3 e_p3 F_p3 j_p3 f_p3),(PV.mk s_p4 A_p4 n_p4 c_p4 B_p4 m_p4 d_p4 t_p4 E_p4 i_p4 e_p4 F_p4 j_p4 f_p4)]=LL at *
 go_upto_region 4 with (first
  | (go_at_call 23;(with_reducible refine (Qpe 0 0 (by decide) (by decide) (by decide) (by decide) _).mono ?_);rintro e w_p1 ⟨s_p1,A_p1,n_p1,c_p1,B_p1,m_p1,d_p1,t_p1,E_p1,i_p1,e_p1,F_p1,j_p1,f_p1,rfl,p1,hh⟩
     (try replace hSL:=hSL.below hh);(try replace hEL:=hEL.below hh);replace hb:=Qaj hb hh)
  | (go_at_call 23;(with_reducible refine (Qpe 2 2 (by decide) (by decide) (by decide) (by decide) _).mono ?_);rintro e w_p2 ⟨s_p2,A_p2,n_p2,c_p2,B_p2,m_p2,d_p2,t_p2,E_p2,i_p2,e_p2,F_p2,j_p2,f_p2,rfl,p2,hh⟩
     (try replace hSL:=hSL.below hh);(try replace hEL:=hEL.below hh);(try replace p1:=p1.below hh);replace hb:=Qaj hb hh)
  | (go_at_call 11;(with_reducible refine (Qns (k:=1) (k2:=1) (ka:=13) hSL (Each.pr hEL) p1.pr p2.pr hLn (by decide) (by decide) (by decide) (by decide) (by decide) (by decide) (by decide) (by decide)).mono ?_);rintro e w_h ⟨v_h,M,rfl,hLh,hEh,hh⟩
     (try replace hSL:=hSL.below hh);(try replace hEL:=hEL.below hh);replace hb:=Qaj hb hh;clear p1 p2))
 rw [Qqa] at hEh;have hEH:=Each.fit hEh wk8_bl
 obtain ⟨A_h,c_h,rfl,hch,_⟩:=hLh.form
 have hMn:M.length=3:=hEh.1
 rw [hMn] at hLh hch ⊢
 have hSH:=hLh.sv;clear hEh hLh
 go_upto_region 5 with (first
  | (go_at_call 24;(with_reducible refine (box_p hSL (Each.pr hEL) hLn (by decide) (by decide) (by decide) (by decide) (by decide)).mono ?_);rintro e w_b ⟨x0,y0,x1,y1,⟨s_p,A_p,n_p,c_p,B_p,m_p,d_p,t_p,E_p,i_p,e_p,F_p,j_p,f_p⟩,⟨s_q,A_q,n_q,c_q,B_q,m_q,d_q,t_q,E_q,i_q,e_q,F_q,j_q,f_q⟩,hbx,rfl,p,q,hh⟩
     (try replace hSL:=hSL.below hh);(try replace hEL:=hEL.below hh);(try replace hSH:=hSH.below hh);(try replace hEH:=hEH.below hh);replace hb:=Qaj hb hh
     obtain ⟨rfl,rfl,rfl,rfl⟩:=Qo3 hbx Qrt
     replace p:PG w_b s_p A_p n_p c_p B_p m_p d_p t_p E_p i_p e_p F_p j_p f_p (Rat.divInt 0 1) (Rat.divInt 0 1) 3:=p
     replace q:PG w_b s_q A_q n_q c_q B_q m_q d_q t_q E_q i_q e_q F_q j_q f_q (Rat.divInt 2 1) (Rat.divInt 2 1) 3:=q
     clear hbx))
 generalize hW:World.alloc _ _=W2
 obtain ⟨hh,XA,XB,hzW2⟩:=Qbn hW;clear hW;(try replace hSL:=hSL.below hh);(try replace hEL:=hEL.below hh);(try replace hSH:=hSH.below hh);(try replace hEH:=hEH.below hh);(try replace p:=p.below hh);(try replace q:=q.below hh);replace hb:=Qaj hb hh
 replace hSL:=hSL.below (Below.refl _ _).drew
 replace hEL:=hEL.below (Below.refl _ _).drew
 replace hSH:=hSH.below (Below.refl _ _).drew
 replace hEH:=hEH.below (Below.refl _ _).drew
 replace p:=p.below (Below.refl _ _).drew
 replace q:=q.below (Below.refl _ _).drew
 replace XA:=XA.below (Below.refl _ _).drew
 replace XB:=XB.below (Below.refl _ _).drew
 replace hb:=hb.drew
 go_region_held3 (fun w'=>w'.cell? ⟨w_b.heap.size,0,none⟩=some (.bool s_p)∧w'.cell? ⟨w_b.heap.size,1,none⟩=some (.slice A_p n_p c_p)∧w'.cell? ⟨w_b.heap.size,2,none⟩=some (.slice B_p m_p d_p)∧w'.cell? ⟨w_b.heap.size,3,none⟩=some (.bool t_p)∧w'.cell? ⟨w_b.heap.size,4,none⟩=some (.slice E_p i_p e_p)∧w'.cell? ⟨w_b.heap.size,5,none⟩=some (.slice F_p j_p f_p)∧w'.cell? ⟨w_b.heap.size+1,0,none⟩=some (.bool s_q)∧w'.cell? ⟨w_b.heap.size+1,1,none⟩=some (.slice A_q n_q c_q)∧w'.cell? ⟨w_b.heap.size+1,2,none⟩=some (.slice B_q m_q d_q)∧w'.cell? ⟨w_b.heap.size+1,3,none⟩=some (.bool t_q)∧w'.cell? ⟨w_b.heap.size+1,4,none⟩=some (.slice E_q i_q e_q)∧w'.cell? ⟨w_b.heap.size+1,5,none⟩=some (.slice F_q j_q f_q))
  (first | with_reducible exact ⟨XA.c0,XA.c1,XA.c2,XA.c3,XA.c4,XA.c5,XB.c0,XB.c1,XB.c2,XB.c3,XB.c4,XB.c5⟩)
  (first
  | (go_at_call 14;(with_reducible refine (QlV hSL (Each.pr hEL) hLn (by decide) (by decide) (by decide) (by decide) (by decide)).mono ?_);rintro e w_a ⟨s_a,A_a,n_a,c_a,B_a,m_a,d_a,rfl,a,hh⟩
     (try replace hSL:=hSL.below hh);(try replace hEL:=hEL.below hh);(try replace hSH:=hSH.below hh);(try replace hEH:=hEH.below hh);(try replace p:=p.below hh);(try replace q:=q.below hh);(try replace XA:=XA.below hh);(try replace XB:=XB.below hh);replace hb:=Qaj hb hh)
  | (go_at_call 14;(with_reducible refine (QlV hSH (Each.pr hEH) hMn (by decide) hch (by decide) (by decide) (by decide)).mono ?_);rintro e w_r ⟨s_r,A_r,n_r,c_r,B_r,m_r,d_r,rfl,r,hh⟩
     (try replace hSL:=hSL.below hh);(try replace hEL:=hEL.below hh);(try replace hSH:=hSH.below hh);(try replace hEH:=hEH.below hh);(try replace p:=p.below hh);(try replace q:=q.below hh);(try replace XA:=XA.below hh);(try replace XB:=XB.below hh);replace hb:=Qaj hb hh)
  | (go_at_call 25;(with_reducible refine (QnZ a.qr (by decide) (by decide)).mono ?_);rintro e w_z ⟨rfl,hh⟩
     rw [wk8_t4];(try replace hSL:=hSL.below hh);(try replace hEL:=hEL.below hh);(try replace hSH:=hSH.below hh);(try replace hEH:=hEH.below hh);(try replace p:=p.below hh);(try replace q:=q.below hh);(try replace XA:=XA.below hh);(try replace XB:=XB.below hh);replace hb:=Qaj hb hh;clear a)
  | (go_at_call 25;(with_reducible refine (QnZ r.qr (by decide) (by decide)).mono ?_);rintro e w_z ⟨rfl,hh⟩
     rw [wk8_t2];(try replace hSL:=hSL.below hh);(try replace hEL:=hEL.below hh);(try replace hSH:=hSH.below hh);(try replace hEH:=hEH.below hh);(try replace p:=p.below hh);(try replace q:=q.below hh);(try replace XA:=XA.below hh);(try replace XB:=XB.below hh);replace hb:=Qaj hb hh;clear r)
  | (go_at_call 16;(with_reducible refine (Qig hSL (Each.pr hEL) hLn (by decide) (by decide) (by decide) (by decide) true Qqu).mono ?_);rintro e w_z ⟨rfl,hh⟩
     (try replace hSL:=hSL.below hh);(try replace hEL:=hEL.below hh);(try replace hSH:=hSH.below hh);(try replace hEH:=hEH.below hh);(try replace p:=p.below hh);(try replace q:=q.below hh);(try replace XA:=XA.below hh);(try replace XB:=XB.below hh);replace hb:=Qaj hb hh)
  | (go_at_call 23;(with_reducible refine (Qpe 1 1 (by decide) (by decide) (by decide) (by decide) _).mono ?_);rintro e w_t1 ⟨s_t1,A_t1,n_t1,c_t1,B_t1,m_t1,d_t1,t_t1,E_t1,i_t1,e_t1,F_t1,j_t1,f_t1,rfl,t1,hh⟩
     (try replace hSL:=hSL.below hh);(try replace hEL:=hEL.below hh);(try replace hSH:=hSH.below hh);(try replace hEH:=hEH.below hh);(try replace p:=p.below hh);(try replace q:=q.below hh);(try replace XA:=XA.below hh);(try replace XB:=XB.below hh);replace hb:=Qaj hb hh)
  | (go_at_call 23;(with_reducible refine (Qpe 3 1 (by decide) (by decide) (by decide) (by decide) _).mono ?_);rintro e w_t2 ⟨s_t2,A_t2,n_t2,c_t2,B_t2,m_t2,d_t2,t_t2,E_t2,i_t2,e_t2,F_t2,j_t2,f_t2,rfl,t2,hh⟩
     (try replace hSL:=hSL.below hh);(try replace hEL:=hEL.below hh);(try replace hSH:=hSH.below hh);(try replace hEH:=hEH.below hh);(try replace p:=p.below hh);(try replace q:=q.below hh);(try replace XA:=XA.below hh);(try replace XB:=XB.below hh);replace hb:=Qaj hb hh)
  | (go_at_call 23;(with_reducible refine (Qpe 0 0 (by decide) (by decide) (by decide) (by decide) _).mono ?_);rintro e w_t3 ⟨s_t3,A_t3,n_t3,c_t3,B_t3,m_t3,d_t3,t_t3,E_t3,i_t3,e_t3,F_t3,j_t3,f_t3,rfl,t3,hh⟩
     (try replace hSL:=hSL.below hh);(try replace hEL:=hEL.below hh);(try replace hSH:=hSH.below hh);(try replace hEH:=hEH.below hh);(try replace p:=p.below hh);(try replace q:=q.below hh);(try replace XA:=XA.below hh);(try replace XB:=XB.below hh);replace hb:=Qaj hb hh)
  | (go_at_call 23;(with_reducible refine (Qpe 2 2 (by decide) (by decide) (by decide) (by decide) _).mono ?_);rintro e w_t4 ⟨s_t4,A_t4,n_t4,c_t4,B_t4,m_t4,d_t4,t_t4,E_t4,i_t4,e_t4,F_t4,j_t4,f_t4,rfl,t4,hh⟩
     (try replace hSL:=hSL.below hh);(try replace hEL:=hEL.below hh);(try replace hSH:=hSH.below hh);(try replace hEH:=hEH.below hh);(try replace p:=p.below hh);(try replace q:=q.below hh);(try replace XA:=XA.below hh);(try replace XB:=XB.below hh);replace hb:=Qaj hb hh)
  | (go_at_call 17;(with_reducible refine (QqE hSL (Each.pr hEL) t1.pr hLn (by decide) (by decide) (by decide) (by decide) true QpH).mono ?_);rintro e w_z ⟨rfl,hh⟩
     (try replace hSL:=hSL.below hh);(try replace hEL:=hEL.below hh);(try replace hSH:=hSH.below hh);(try replace hEH:=hEH.below hh);(try replace p:=p.below hh);(try replace q:=q.below hh);(try replace XA:=XA.below hh);(try replace XB:=XB.below hh);replace hb:=Qaj hb hh;clear t1)
  | (go_at_call 17;(with_reducible refine (QqE hSL (Each.pr hEL) t2.pr hLn (by decide) (by decide) (by decide) (by decide) false QpG).mono ?_);rintro e w_z ⟨rfl,hh⟩
     (try replace hSL:=hSL.below hh);(try replace hEL:=hEL.below hh);(try replace hSH:=hSH.below hh);(try replace hEH:=hEH.below hh);(try replace p:=p.below hh);(try replace q:=q.below hh);(try replace XA:=XA.below hh);(try replace XB:=XB.below hh);replace hb:=Qaj hb hh;clear t2)
  | (go_at_call 26;(with_reducible refine (Qof p.pr t3.pr (by decide) (by decide) (by decide) (by decide) true wk8_s0).mono ?_);rintro e w_z ⟨rfl,hh⟩
     (try replace hSL:=hSL.below hh);(try replace hEL:=hEL.below hh);(try replace hSH:=hSH.below hh);(try replace hEH:=hEH.below hh);(try replace p:=p.below hh);(try replace q:=q.below hh);(try replace XA:=XA.below hh);(try replace XB:=XB.below hh);replace hb:=Qaj hb hh;clear t3)
  | (go_at_call 26;(with_reducible refine (Qof q.pr t4.pr (by decide) (by decide) (by decide) (by decide) true wk8_s2).mono ?_);rintro e w_z ⟨rfl,hh⟩
     (try replace hSL:=hSL.below hh);(try replace hEL:=hEL.below hh);(try replace hSH:=hSH.below hh);(try replace hEH:=hEH.below hh);(try replace p:=p.below hh);(try replace q:=q.below hh);(try replace XA:=XA.below hh);(try replace XB:=XB.below hh);replace hb:=Qaj hb hh;clear t4))
 go_wp2_with fail
 go_ret;exact ⟨rfl,hb⟩
end
section
open Go Go.RowKit
structure LV where
 s:Bool
 a:List Nat
 b:List Nat
 t:Bool
 c:List Nat
 d:List Nat
def PV.Lims (w:World) (p:PV) (q:LV):Prop:=p.s=q.s∧p.t=q.t∧(Rd .u64 w p.A p.n q.a∧p.n≤p.c)∧(Rd .u64 w p.B p.m q.b∧p.m≤p.d)∧(Rd .u64 w p.E p.i q.c∧p.i≤p.e)∧(Rd .u64 w p.F p.j q.d∧p.j≤p.f)
def EachL (w:World) (L:List PV) (l:List LV):Prop:=L.length=l.length∧∀ (i:Nat) (p:PV) (q:LV),L[i]?=some p→l[i]?=some q→p.Lims w q
theorem EachL.nil:EachL w [] []:=⟨rfl,fun i p u h=>by cases h⟩
def PV.Nils (p:PV):Prop:=(p.A=none→p.c=0)∧(p.B=none→p.d=0)∧(p.E=none→p.e=0)∧(p.F=none→p.f=0)
theorem QqQ {p:PV} (h:p.Raw w):∃ q,p.Lims w q∧Lim B64 q.a∧Lim B64 q.b∧Lim B64 q.c∧Lim B64 q.d∧p.Nils:=by
 obtain ⟨z1,z2,z3,z4,h1,h2,h3,h4⟩:=h
 obtain ⟨l1,r1,t1,e1,_⟩:=h1.rd
 obtain ⟨l2,r2,t2,e2,_⟩:=h2.rd
 obtain ⟨l3,r3,t3,e3,_⟩:=h3.rd
 obtain ⟨l4,r4,t4,e4,_⟩:=h4.rd
 exact ⟨⟨p.s,l1,l2,p.t,l3,l4⟩,⟨rfl,rfl,⟨r1,e1⟩,⟨r2,e2⟩,⟨r3,e3⟩,⟨r4,e4⟩⟩,t1,t2,t3,t4,h1.nil,h2.nil,h3.nil,h4.nil⟩
end
section
open Go Go.RowKit
theorem QiM {A:Option Addr} {n c N:Nat} {NI:Int} (hNI:NI=(N:Int)) {L:List PV} (hL:SV w A (pvs L)) (hn:L.length=n) (hm:N≤100000) (hnc:n≤c) (hN:n≤N) (h:∀ p ∈ L,p.small 4) :
 Calls Tryz.prog 4 #[.slice A n c,.int .i64 NI] w fun e w'=>e=.returned (.bool true)∧Below w.heap.size w w':=Qoj hNI hL hn hm hnc hN true ⟨fun _=>h,fun _=>rfl⟩
theorem Qpn {A:Option Addr} {n c N:Nat} {NI:Int} (hNI:NI=(N:Int)) {L:List PV} (hL:SV w A (pvs L)) (hn:L.length=n) (hm:N≤100000) (hnc:n≤c) (hN:n≤N) (h:¬ ∀ p ∈ L,p.small 4) :
 Calls Tryz.prog 4 #[.slice A n c,.int .i64 NI] w fun e w'=>e=.returned (.bool false)∧Below w.heap.size w w':=Qoj hNI hL hn hm hnc hN false ⟨fun e=>by (cases e),fun e=>absurd e h⟩
def LV.ok (q:LV):Prop:=(Lim B64 q.a∧Lim B64 q.b∧Lim B64 q.c∧Lim B64 q.d)∧(q.a.length≤4∧q.b.length≤4)∧q.c.length≤4∧q.d.length≤4
def LV.val (q:LV):Rat × Rat:=(mkRat (iv q.s (Go.Proofs.YthbhngeiiabagaaGreat.val B64 q.a)) (Qa7 (Go.Proofs.YthbhngeiiabagaaGreat.val B64 q.b)),mkRat (iv q.t (Go.Proofs.YthbhngeiiabagaaGreat.val B64 q.c)) (Qa7 (Go.Proofs.YthbhngeiiabagaaGreat.val B64 q.d)))
theorem PV.Lims.pr {p:PV} {q:LV} (h:p.Lims w q) (ho:q.ok):p.PR w q.val 4:=by
 obtain ⟨h1,h2,⟨ra,ea⟩,⟨rb,eb⟩,⟨rc,ec⟩,⟨rd,ed⟩⟩:=h
 obtain ⟨⟨la,lb,lc,ld⟩,⟨na,nb⟩,nc,nd⟩:=ho
 have xa:=ra.1;have xb:=rb.1;have xc:=rc.1;have xd:=rd.1
 obtain ⟨s,A,n,c,B,m,d,t,E,i,e,F,j,f⟩:=p
 obtain rfl:s=q.s:=h1
 obtain rfl:t=q.t:=h2
 exact ⟨QR.of_rd ra la ea rb lb eb (Nat.le_trans (Nat.le_of_eq xa.symm) na) (Nat.le_trans (Nat.le_of_eq xb.symm) nb),QR.of_rd rc lc ec rd ld ed (Nat.le_trans (Nat.le_of_eq xc.symm) nc) (Nat.le_trans (Nat.le_of_eq xd.symm) nd)⟩
theorem EachL.pr {L:List PV} {l:List LV} (h:EachL w L l) (ho:∀ q ∈ l,q.ok):Each PV.PR w L (l.map LV.val) 4 :=
 ⟨by rw [List.length_map];exact h.1,fun i p u hp hu=>by
  rw [List.getElem?_map] at hu
  cases hq:l[i]? with
  | none=>rw [hq] at hu;cases hu
  | some q =>
    rw [hq] at hu
    obtain rfl:q.val=u:=by simpa using hu
    exact (h.2 i p q hp hq).pr (ho q (List.mem_of_getElem? hq))⟩
theorem Qju:∀ {L:List PV},(∀ q ∈ L,q.Raw w)→(∀ q ∈ L,q.small 4)→∃ l:List LV,EachL w L l∧(∀ q ∈ l,q.ok)∧∀ p ∈ L,p.Nils
 | [],_,_=>⟨[],EachL.nil,(fun q h=>by cases h),(fun q h=>by cases h)⟩
 | p :: L,hR,hS=>by
   obtain ⟨l,h1,h2,h3⟩:=Qju (L:=L) (fun q h=>hR q (List.mem_cons_of_mem _ h)) (fun q h=>hS q (List.mem_cons_of_mem _ h))
   obtain ⟨q,g1,ga,gb,gc,gd,g3⟩:=QqQ (hR p (List.mem_cons_self ..))
   have hs:=hS p (List.mem_cons_self ..)
   have xa:=g1.2.2.1.1.1;have xb:=g1.2.2.2.1.1.1;have xc:=g1.2.2.2.2.1.1.1;have xd:=g1.2.2.2.2.2.1.1
   unfold PV.small at hs
   refine ⟨q :: l,⟨by rw [List.length_cons,List.length_cons,h1.1],fun i r v hr hv=>?_⟩,fun v hv=>?_,fun v hv=>?_⟩
   · match i,hr,hv with
     | 0,hr,hv=>cases hr;cases hv;exact g1
     | i+1,hr,hv=>exact h1.2 i r v hr hv
   · rcases List.mem_cons.1 hv with rfl | hv
     · exact ⟨⟨ga,gb,gc,gd⟩,⟨by omega,by omega⟩,by omega,by omega⟩
     · exact h2 v hv
   · rcases List.mem_cons.1 hv with rfl | hv
     · exact g3
     · exact h3 v hv
end
section
open Go Go.RowKit
def QaK (f:Nat→Rat):Nat→Rat
 | 0=>0
 | k+1=>QaK f k+f k
theorem QdP {f g:Nat→Rat} {n:Nat} (h:∀ k,k < n→f k=g k):QaK f n=QaK g n:=by
 induction n with
 | zero=>rfl
 | succ n ih=>rw [QaK,QaK,ih (fun k hk=>h k (by omega)),h n (by omega)]
theorem Qi1 (f g:Nat→Rat) (n:Nat):QaK (fun k=>f k+g k) n=QaK f n+QaK g n:=by
 induction n with
 | zero=>show (0:Rat)=0+0;rw [Rat.add_zero]
 | succ n ih=>rw [QaK,QaK,QaK,ih];grind
theorem Ql1 (g:Nat→Rat) (n:Nat):QaK (fun k=>g (k+1) - g k) n=g n - g 0:=by
 induction n with
 | zero=>rw [QaK];grind
 | succ n ih=>rw [QaK,ih];grind
theorem Qle {f g:Nat→Rat} {n:Nat} (h:∀ k,k < n→f k≤g k):QaK f n≤QaK g n:=by
 induction n with
 | zero=>exact Rat.le_refl
 | succ n ih=>have:=ih (fun k hk=>h k (by omega));have:=h n (by omega);rw [QaK,QaK];grind
theorem QgK (f:Nat→Rat) (n:Nat):QaK f (n+1)=f 0+QaK (fun k=>f (k+1)) n:=by
 induction n with
 | zero=>rw [QaK,QaK,QaK];grind
 | succ n ih=>rw [QaK,ih,QaK];grind
section
variable {n:Nat} {x y:Nat→Rat}
def QfJ (x y:Nat→Rat) (k:Nat):Rat:=crs (x k) (y k) (x (k+1)) (y (k+1))
theorem Qn9 (hx:∀ k,x (k+n)=x k) (hy:∀ k,y (k+n)=y k) (a b:Rat):QaK (QfJ (fun k=>x k+a) (fun k=>y k+b)) n=QaK (QfJ x y) n:=by
 obtain ⟨g,hg⟩:∃ g:Nat→Rat,∀ k,g k=a*y k - b*x k:=⟨_,fun _=>rfl⟩
 have e:QaK (QfJ (fun k=>x k+a) (fun k=>y k+b)) n=QaK (fun k=>QfJ x y k+(g (k+1) - g k)) n:=QdP fun k _=>by
  rw [hg,hg];unfold QfJ crs;grind
 rw [e,Qi1,Ql1,hg,hg]
 have h1:=hx 0;have h2:=hy 0
 rw [Nat.zero_add] at h1 h2
 rw [h1,h2];grind
end
def Qa5 (l:List (Rat × Rat)) (k:Nat):Rat:=(l.getD (k % l.length) (0,0)).1
def QaZ (l:List (Rat × Rat)) (k:Nat):Rat:=(l.getD (k % l.length) (0,0)).2
theorem QcA (l:List (Rat × Rat)) (k:Nat):Qa5 l (k+l.length)=Qa5 l k:=by unfold Qa5;rw [Nat.add_mod_right]
theorem Qcx (l:List (Rat × Rat)) (k:Nat):QaZ l (k+l.length)=QaZ l k:=by unfold QaZ;rw [Nat.add_mod_right]
theorem Qcj {l:List (Rat × Rat)} {i:Nat} {u:Rat × Rat} (h:l[i]?=some u):Qa5 l i=u.1∧QaZ l i=u.2:=by
 have hi:=(List.getElem?_eq_some_iff.1 h).1
 unfold Qa5 QaZ
 rw [Nat.mod_eq_of_lt hi,List.getD_eq_getElem?_getD,h]
 exact ⟨rfl,rfl⟩
theorem Qen {l:List (Rat × Rat)} {i:Nat} {u:Rat × Rat} (h:(Qav l)[i]?=some u):u=(Qa5 l i,QaZ l i):=by
 rcases Nat.lt_or_ge i l.length with q | q
 · rw [Qeb q] at h
   have:=Qcj h
   rw [this.1,this.2]
 · have h7:=(List.getElem?_eq_some_iff.1 h).1
   have h8:0 < l.length:=by
    refine Nat.pos_of_ne_zero fun e=>?_
    rw [List.length_eq_zero_iff] at e;subst e;simp [Qav] at h7
   rw [QbK l h8] at h7
   have e:i=l.length:=by omega
   subst e
   unfold Qav at h
   rw [List.getElem?_append_right (Nat.le_refl _),Nat.sub_self,List.getElem?_take,if_pos (by decide)] at h
   have:=Qcj h
   have p1:=QcA l 0;have p2:=Qcx l 0
   rw [Nat.zero_add] at p1 p2
   rw [p1,p2,this.1,this.2]
theorem Qd6 {l:List (Rat × Rat)} {i:Nat} (h:i < l.length):(Qav l)[i]?=some (Qa5 l i,QaZ l i)∧(Qav l)[i+1]?=some (Qa5 l (i+1),QaZ l (i+1)):=by
 have hl:=QbK l (by omega)
 obtain ⟨u,hu⟩:∃ u,(Qav l)[i]?=some u:=⟨_,List.getElem?_eq_getElem (by omega)⟩
 obtain ⟨v,hv⟩:∃ v,(Qav l)[i+1]?=some v:=⟨_,List.getElem?_eq_getElem (by omega)⟩
 rw [hu,hv,Qen hu,Qen hv]
 exact ⟨rfl,rfl⟩
theorem QmE (l:List Rat):QiL l=QaK (fun k=>l.getD k 0) l.length:=by
 induction l with
 | nil=>rfl
 | cons v l ih =>
   rw [show QiL (v :: l)=v+QiL l from rfl,ih,List.length_cons,QgK]
   rfl
theorem Qkk (l:List (Rat × Rat)):QiL (QdK l)=QaK (QfJ (Qa5 l) (QaZ l)) l.length:=by
 rw [QmE,QgJ]
 refine QdP fun k hk=>?_
 have h:=Qd6 hk
 rw [List.getD_eq_getElem?_getD,Qhr h.1 h.2]
 rfl
theorem Qcy (l:List (Rat × Rat)):Qcn l=QaK (QfJ (Qa5 l) (QaZ l)) l.length*Rat.divInt 1 2:=by unfold Qcn;rw [Qkk]
theorem QhJ {l:List (Rat × Rat)} {i:Nat} (h:i < l.length):(QbV l)[i]?=some (dd (Qa5 l) i,dd (QaZ l) i):=by
 have h2:=Qd6 h;rw [QlN h2.1 h2.2]
 rfl
theorem Qfh {l:List (Rat × Rat)} {i:Nat} {u:Rat × Rat} (h:(Qav (QbV l))[i]?=some u):u=(dd (Qa5 l) i,dd (QaZ l) i):=by
 have hl:=QcE l
 rcases Nat.lt_or_ge i l.length with q | q
 · rw [Qeb (by rw [hl];exact q),QhJ q] at h
   exact (Option.some.inj h).symm
 · have h7:=(List.getElem?_eq_some_iff.1 h).1
   have h8:0 < l.length:=by
    refine Nat.pos_of_ne_zero fun e=>?_
    rw [List.length_eq_zero_iff] at e;subst e;simp [Qav,QbV] at h7
   rw [QbK _ (by rw [hl];exact h8),hl] at h7
   have e:i=l.length:=by omega
   subst e
   unfold Qav at h
   rw [List.getElem?_append_right (by rw [hl];exact Nat.le_refl _),hl,Nat.sub_self,List.getElem?_take,if_pos (by decide),QhJ h8] at h
   have p1:=QcS (QcA l) 0
   have p2:=QcS (Qcx l) 0
   rw [Nat.zero_add] at p1 p2
   rw [p1,p2]
   exact (Option.some.inj h).symm
theorem Qes {l:List (Rat × Rat)} {i:Nat} (h:i < l.length):(Qav (QbV l))[i]?=some (dd (Qa5 l) i,dd (QaZ l) i)∧(Qav (QbV l))[i+1]?=some (dd (Qa5 l) (i+1),dd (QaZ l) (i+1)):=by
 have hl:=QbK (QbV l) (by rw [QcE];omega)
 rw [QcE] at hl
 obtain ⟨u,hu⟩:∃ u,(Qav (QbV l))[i]?=some u:=⟨_,List.getElem?_eq_getElem (by omega)⟩
 obtain ⟨v,hv⟩:∃ v,(Qav (QbV l))[i+1]?=some v:=⟨_,List.getElem?_eq_getElem (by omega)⟩
 rw [hu,hv,Qfh hu,Qfh hv]
 exact ⟨rfl,rfl⟩
theorem Qno {l:List (Rat × Rat)} {m:Nat} (hm:m≤l.length):Qfp (Qav (QbV l)) m=lows (QaZ l) m:=by
 induction m with
 | zero=>rfl
 | succ m ih =>
   have h:=Qes (l:=l) (i:=m) (by omega)
   rw [Qlu h.1 h.2,ih (by omega)]
   rfl
theorem Qc8 (l:List (Rat × Rat)):QdC l ↔ Conv l.length (Qa5 l) (QaZ l):=by
 rw [Qqk (QcA l) (Qcx l)]
 unfold QdC
 rw [Qno (Nat.le_refl _)]
 refine and_congr ⟨fun h k hk=>?_,fun h i u v hu hv=>?_⟩ Iff.rfl
 · have h2:=Qes hk
   exact h k _ _ h2.1 h2.2
 · have h7:=(List.getElem?_eq_some_iff.1 hv).1
   have h8:i < l.length:=by
    rcases Nat.eq_zero_or_pos l.length with e | e
    · exfalso
      rw [List.length_eq_zero_iff] at e;subst e;exact absurd h7 (by simp [QbV,Qav])
    · rw [QbK _ (by rw [QcE];exact e),QcE] at h7;omega
   have:=h i h8
   rw [Qfh hu,Qfh hv]
   exact this
end
section
open Go
section
variable {n:Nat} {x y:Nat→Rat}
theorem Qa3 (a b:Rat):a < b ∨ b≤a:=by
 by_cases h:a < b
 · exact .inl h
 · exact .inr (Rat.not_lt.1 h)
theorem ex_top {S:Nat→Prop} (g:Nat→Rat):∀ m,(∃ i,i < m∧S i)→∃ i,i < m∧S i∧∀ j,j < m→S j→g j≤g i:=by
 intro m
 induction m with
 | zero=>rintro ⟨i,h,_⟩;omega
 | succ m ih =>
   rintro ⟨i,hi,hs⟩
   by_cases q:∃ i,i < m∧S i
   · obtain ⟨j,hj,hsj,hm⟩:=ih q
     by_cases hS:S m∧g j < g m
     · refine ⟨m,by omega,hS.1,fun l hl hsl=>?_⟩
       rcases Nat.lt_or_ge l m with h | h
       · have:=hm l h hsl;have:=hS.2;grind
       · rw [show l=m by omega];exact Rat.le_refl
     · refine ⟨j,by omega,hsj,fun l hl hsl=>?_⟩
       rcases Nat.lt_or_ge l m with h | h
       · exact hm l h hsl
       · have e:l=m:=by omega
         subst e
         exact Rat.not_lt.1 fun e=>hS ⟨hsl,e⟩
   · have e : i = m := by
       rcases Nat.lt_or_ge i m with h | h
       · exact absurd ⟨i,h,hs⟩ q
       · omega
     subst e
     exact ⟨i,hi,hs,fun l hl hsl=>by
      rcases Nat.lt_or_ge l i with h | h
      · exact absurd ⟨l,h,hsl⟩ q
      · rw [show l=i by omega];exact Rat.le_refl⟩
def OnL (x y:Nat→Rat) (ox oy a b:Rat) (j:Nat) (s:Rat):Prop:=x j=ox+s*a∧y j=oy+s*b
theorem OnL.uniq {ox oy a b s t:Rat} {j:Nat} (hz:¬ (a=0∧b=0)) (h1:OnL x y ox oy a b j s) (h2:OnL x y ox oy a b j t):s=t:=by
 obtain ⟨e1,e2⟩:=h1
 obtain ⟨e3,e4⟩:=h2
 have h3:(s - t)*a=0:=by grind
 have h4:(s - t)*b=0:=by grind
 by_cases q:s - t=0
 · grind
 · exfalso
   apply hz
   rcases Rat.mul_eq_zero.1 h3 with h | h
   · exact absurd h q
   rcases Rat.mul_eq_zero.1 h4 with h' | h'
   · exact absurd h' q
   · exact ⟨h,h'⟩
theorem Conv.on_way (h:Conv n x y) (hx:∀ k,x (k+n)=x k) (hy:∀ k,y (k+n)=y k) {ox oy a b s0 s1 t:Rat} {k i j0 j1:Nat} (hz:¬ (a=0∧b=0)) (hk:dd x k=a∧dd y k=b) (hk2:crs a b (x k - ox) (y k - oy)=0)
 (h0:OnL x y ox oy a b j0 s0) (h1:OnL x y ox oy a b j1 s1) (hi:OnL x y ox oy a b i t) (l0:s0 < t) (l1:t < s1):∃ c,0 < c∧OnL x y ox oy a b (i+1) (t+c):=by
 have e0:=h.left' hx hy i j0
 have e1:=h.left' hx hy i j1
 have hd:crs (dd x i) (dd y i) a b=0:=by
  have f0:QaG x y i j0=(s0 - t)*crs (dd x i) (dd y i) a b:=by
   unfold QaG;rw [h0.1,h0.2,hi.1,hi.2];unfold crs;grind
  have f1:QaG x y i j1=(s1 - t)*crs (dd x i) (dd y i) a b:=by
   unfold QaG;rw [h1.1,h1.2,hi.1,hi.2];unfold crs;grind
  rw [f0] at e0;rw [f1] at e1
  have g0:¬ 0 < crs (dd x i) (dd y i) a b:=fun q=>by
   have:=Rat.mul_pos (show 0 < t - s0 by grind) q
   grind
  have g1:¬ crs (dd x i) (dd y i) a b < 0:=fun q=>by
   have:=Rat.mul_pos (show 0 < s1 - t by grind) (show 0 < -crs (dd x i) (dd y i) a b by grind)
   grind
  exact Rat.le_antisymm (Rat.not_lt.1 g0) (Rat.not_lt.1 g1)
 have hd':crs a b (dd x i) (dd y i)=0:=by unfold crs at *;grind
 obtain ⟨c,c1,c2⟩:=QcL hz hd'
 have hnz:=h.way_nz hx hy i
 have hc0:¬ c=0:=fun e=>hnz ⟨by rw [c1,e];grind,by rw [c2,e];grind⟩
 have hpos:0 < c:=by
  refine Classical.byContradiction fun q=>?_
  have hneg:c < 0:=by
   rcases Qa3 c 0 with w | w
   · exact w
   · exfalso;exact q (Rat.lt_of_le_of_ne w fun e=>hc0 e.symm)
  refine h.off (ox:=ox) (oy:=oy) hz fun m=>?_
  have p0:=h.left' hx hy k m
  have p1:=h.left' hx hy i m
  have q0:QaG x y k m=crs a b (x m - ox) (y m - oy):=by
   unfold QaG;rw [hk.1,hk.2];unfold crs at *;grind
  have q1:QaG x y i m=c*crs a b (x m - ox) (y m - oy):=by
   unfold QaG;rw [c1,c2,hi.1,hi.2];unfold crs;grind
  rw [q0] at p0;rw [q1] at p1
  refine Rat.le_antisymm (Rat.not_lt.1 fun r=>?_) p0
  have:=Rat.mul_pos (show 0 < -c by grind) r
  grind
 refine ⟨c,hpos,?_,?_⟩
 · have:=hi.1;unfold dd at c1;grind
 · have:=hi.2;unfold dd at c2;grind
theorem Conv.no_in (h:Conv n x y) (hx:∀ k,x (k+n)=x k) (hy:∀ k,y (k+n)=y k) {i k:Nat} {t:Rat} (t0:0 < t) (t1:t < 1) (e1:x i=x k+t*dd x k) (e2:y i=y k+t*dd y k):False:=by
 have hn:0 < n:=by have:=h.three;omega
 obtain ⟨a,ha⟩:∃ a,a=dd x k:=⟨_,rfl⟩
 obtain ⟨b,hb⟩:∃ b,b=dd y k:=⟨_,rfl⟩
 have hz:¬ (a=0∧b=0):=by rw [ha,hb];exact h.way_nz hx hy k
 let S:Nat→Prop:=fun i=>∃ j s0 s1 t,OnL x y (x k) (y k) a b j s0∧OnL x y (x k) (y k) a b (j+1) s1∧OnL x y (x k) (y k) a b i t∧s0 < t∧t < s1
 have hmodx:∀ j,x (j % n)=x j:=fun j=>Qcu hx j
 have hmody:∀ j,y (j % n)=y j:=fun j=>Qcu hy j
 have on_mod:∀ {j:Nat} {s:Rat},OnL x y (x k) (y k) a b j s→OnL x y (x k) (y k) a b (j % n) s:=fun ⟨q1,q2⟩=>⟨by rw [hmodx];exact q1,by rw [hmody];exact q2⟩
 let g:Nat→Rat:=fun j=>Qj7 a b (x j - x k) (y j - y k)
 have hg:∀ {j:Nat} {s:Rat},OnL x y (x k) (y k) a b j s→g j=s*Qj7 a b a b:=fun ⟨q1,q2⟩=>by
  show Qj7 a b _ _=_
  rw [q1,q2];unfold Qj7;grind
 have hpos:0 < Qj7 a b a b:=by
  unfold Qj7
  by_cases q:a=0
  · have hb0:¬ b=0:=fun e=>hz ⟨q,e⟩
    rcases Qa3 b 0 with w | w
    · have:=Rat.mul_pos (show 0 < -b by grind) (show 0 < -b by grind);subst q;grind
    · have:=Rat.mul_pos (Rat.lt_of_le_of_ne w fun e=>hb0 e.symm) (Rat.lt_of_le_of_ne w fun e=>hb0 e.symm);subst q;grind
  · have hbb : 0 ≤ b * b := by
      rcases Qa3 b 0 with w | w
      · have:=Rat.mul_pos (show 0 < -b by grind) (show 0 < -b by grind);grind
      · exact Rat.mul_nonneg w w
    rcases Qa3 a 0 with w | w
    · have:=Rat.mul_pos (show 0 < -a by grind) (show 0 < -a by grind);grind
    · have:=Rat.mul_pos (Rat.lt_of_le_of_ne w fun e=>q e.symm) (Rat.lt_of_le_of_ne w fun e=>q e.symm);grind
 have hS:∃ i,i < n∧S i:=⟨i % n,Nat.mod_lt _ hn,k,0,1,t,⟨by grind,by grind⟩,⟨by rw [ha];unfold dd;grind,by rw [hb];unfold dd;grind⟩,on_mod ⟨by rw [e1,ha],by rw [e2,hb]⟩,t0,t1⟩
 obtain ⟨i,hi,⟨j,s0,s1,u,o0,o1,oi,l0,l1⟩,hm⟩:=ex_top g n hS
 obtain ⟨c,c0,oc⟩:=h.on_way hx hy hz ⟨ha.symm,hb.symm⟩ (by unfold crs;grind) o0 o1 oi l0 l1
 have top:∀ {q:Nat} {s:Rat},S q→OnL x y (x k) (y k) a b q s→s≤u:=fun {q s} hq ho=>by
  have h1:=hm (q % n) (Nat.mod_lt _ hn) (by
   obtain ⟨j',s0',s1',t',w0,w1,w2,w3,w4⟩:=hq
   exact ⟨j',s0',s1',t',w0,w1,on_mod w2,w3,w4⟩)
  rw [hg (on_mod ho),hg oi] at h1
  refine Rat.not_lt.1 fun e=>?_
  have:=Rat.mul_pos (show 0 < s - u by grind) hpos
  grind
 rcases Qa3 (u+c) s1 with q | q
 · have:=top (q:=i+1) ⟨j,s0,s1,u+c,o0,o1,oc,by grind,q⟩ oc
   grind
 · by_cases qe:u+c=s1
   · rw [qe] at oc
     have hne:(i+1) % n=(j+1) % n:=Classical.byContradiction fun e=>h.apart' hx hy e ⟨by rw [oc.1,o1.1],by rw [oc.2,o1.2]⟩
     have hij:i % n=j % n:=by
      have h1:=Nat.mod_lt i hn;have h2:=Nat.mod_lt j hn
      rw [Nat.add_mod i,Nat.add_mod j] at hne
      have h3:=h.three
      rw [Nat.mod_eq_of_lt (show 1 < n by omega)] at hne
      rcases Nat.lt_or_ge (i % n+1) n with p | p <;> rcases Nat.lt_or_ge (j % n+1) n with r | r
      · rw [Nat.mod_eq_of_lt p,Nat.mod_eq_of_lt r] at hne;omega
      · rw [Nat.mod_eq_of_lt p,show j % n+1=n by omega,Nat.mod_self] at hne;omega
      · rw [Nat.mod_eq_of_lt r,show i % n+1=n by omega,Nat.mod_self] at hne;omega
      · omega
     have oi':OnL x y (x k) (y k) a b j u:=⟨by rw [← oi.1,← hmodx i,← hmodx j,hij],by rw [← oi.2,← hmody i,← hmody j,hij]⟩
     have:=OnL.uniq hz oi' o0
     grind
   · have q2:s1 < u+c:=Rat.lt_of_le_of_ne q fun e=>qe e.symm
     have:=top (q:=j+1) ⟨i,u,u+c,s1,oi,oc,o1,l1,q2⟩ o1
     grind
theorem Conv.no_two (h:Conv n x y) (hx:∀ k,x (k+n)=x k) (hy:∀ k,y (k+n)=y k) {i k:Nat} {t s:Rat} (hne:i % n ≠ k % n) (t0:0 < t) (t1:t < 1) (s0:0 < s) (s1:s < 1) (e1:x k+t*dd x k=x i+s*dd x i) (e2:y k+t*dd y k=y i+s*dd y i):False:=by
 have hz:=h.way_nz hx hy k
 have p0:=h.left' hx hy k i
 have p1:=h.left' hx hy k (i+1)
 have f0:QaG x y k i=-(s*crs (dd x k) (dd y k) (dd x i) (dd y i)):=by
  have q1:x i - x k=t*dd x k - s*dd x i:=by grind
  have q2:y i - y k=t*dd y k - s*dd y i:=by grind
  unfold QaG;rw [q1,q2];unfold crs;grind
 have f1:QaG x y k (i+1)=(1 - s)*crs (dd x k) (dd y k) (dd x i) (dd y i):=by
  have q1:x (i+1) - x k=t*dd x k+(1 - s)*dd x i:=by
   have:x (i+1)=x i+dd x i:=by unfold dd;grind
   grind
  have q2:y (i+1) - y k=t*dd y k+(1 - s)*dd y i:=by
   have:y (i+1)=y i+dd y i:=by unfold dd;grind
   grind
  unfold QaG;rw [q1,q2];unfold crs;grind
 rw [f0] at p0;rw [f1] at p1
 have hd:crs (dd x k) (dd y k) (dd x i) (dd y i)=0:=by
  refine Rat.le_antisymm (Rat.not_lt.1 fun q=>?_) (Rat.not_lt.1 fun q=>?_)
  · have:=Rat.mul_pos s0 q;grind
  · have:=Rat.mul_pos (show 0 < 1 - s by grind) (show 0 < -crs (dd x k) (dd y k) (dd x i) (dd y i) by grind);grind
 obtain ⟨c,c1,c2⟩:=QcL hz hd
 have hc0:¬ c=0:=fun e=>h.way_nz hx hy i ⟨by rw [c1,e];grind,by rw [c2,e];grind⟩
 rcases Qa3 c 0 with w | w
 · refine h.off (ox:=x k) (oy:=y k) hz fun m=>?_
   have r0:=h.left' hx hy k m
   have r1:=h.left' hx hy i m
   have g1:QaG x y i m=c*QaG x y k m:=by
    have q1:x i=x k+t*dd x k - s*dd x i:=by grind
    have q2:y i=y k+t*dd y k - s*dd y i:=by grind
    unfold QaG;rw [q1,q2,c1,c2];unfold crs;grind
   rw [g1] at r1
   have:QaG x y k m=0:=by
    refine Rat.le_antisymm (Rat.not_lt.1 fun q=>?_) r0
    have:=Rat.mul_pos (show 0 < -c by grind) q
    grind
   exact this
 · have hc:0 < c:=Rat.lt_of_le_of_ne w fun e=>hc0 e.symm
   have sc:s*c*1=s*c:=by grind
   rcases Qa3 (s*c) t with q | q
   · have hsc:=Rat.mul_pos s0 hc
     exact h.no_in hx hy (i:=i) (k:=k) (t:=t - s*c) (by grind) (by grind) (by rw [c1] at e1;grind) (by rw [c2] at e2;grind)
   · by_cases qe:s*c=t
     · refine h.apart' hx hy hne ⟨?_,?_⟩
       · rw [c1] at e1;grind
       · rw [c2] at e2;grind
     · have q2:t < s*c:=Rat.lt_of_le_of_ne q fun e=>qe e.symm
       have hdc:t / c*c=t:=Rat.div_mul_cancel hc0
       have hi0:0 < t / c:=by
        refine Rat.not_le.1 fun e=>?_
        have:=Rat.mul_nonneg (show 0≤-(t / c) by grind) (Rat.le_of_lt hc)
        grind
       have hlt:t / c < s:=by
        refine Rat.not_le.1 fun e=>?_
        have:=Rat.mul_le_mul_of_nonneg_right e (Rat.le_of_lt hc)
        grind
       exact h.no_in hx hy (i:=k) (k:=i) (t:=s - t / c) (by grind) (by grind) (by rw [c1] at e1 ⊢;grind) (by rw [c2] at e2 ⊢;grind)
end
end
section
open Go
abbrev Q2:=Rat × Rat
def Ch (R:Q2→Q2→Prop):List Q2→Prop
 | []=>True
 | [_]=>True
 | a :: b :: r=>R a b∧Ch R (b :: r)
def chS (c:Q2→Q2→Rat):List Q2→Rat
 | []=>0
 | [_]=>0
 | a :: b :: r=>c a b+chS c (b :: r)
theorem QiN {R:Q2→Q2→Prop} {z:Q2}:∀ {l:List Q2},Ch R l→(∀ u,l.getLast?=some u→R u z)→Ch R (l ++ [z])
 | [],_,_=>trivial
 | [a],_,h=>⟨h a rfl,trivial⟩
 | a :: b :: r,h1,h2=>⟨h1.1,QiN (l:=b :: r) h1.2 fun u hu=>h2 u (by rw [List.getLast?_cons_cons];exact hu)⟩
theorem Qf3 {c:Q2→Q2→Rat} {z u:Q2}:∀ {l:List Q2},l.getLast?=some u→chS c (l ++ [z])=chS c l+c u z
 | [],h=>by cases h
 | [a],h=>by cases h;show c a z+0=0+c a z;grind
 | a :: b :: r,h=>by
   rw [List.getLast?_cons_cons] at h
   have:=Qf3 (c:=c) (z:=z) (l:=b :: r) h
   show c a b+chS c (b :: r ++ [z])=c a b+chS c (b :: r)+c u z
   rw [this];grind
theorem ch_at {R:Q2→Q2→Prop}:∀ {l:List Q2},Ch R l→∀ (i:Nat) (u v:Q2),l[i]?=some u→l[i+1]?=some v→R u v
 | [],_,i,u,v,h,_=>by simp at h
 | [a],_,i,u,v,_,h=>by simp at h
 | a :: b :: r,h,0,u,v,h1,h2=>by
   simp at h1 h2
   subst h1 h2
   exact h.1
 | a :: b :: r,h,i+1,u,v,h1,h2=>by
   rw [List.getElem?_cons_succ] at h1 h2
   exact ch_at (l:=b :: r) h.2 i u v h1 h2
theorem QnU {c:Q2→Q2→Rat}:∀ (l:List Q2) (m:Nat),l.length=m+1→chS c l=QaK (fun k=>c (l.getD k (0,0)) (l.getD (k+1) (0,0))) m
 | [],m,h=>by simp at h
 | [a],m,h=>by
   have:m=0:=by simpa using h.symm
   subst this;rfl
 | a :: b :: r,m,h=>by
   obtain ⟨m,rfl⟩:∃ q,m=q+1:=⟨m - 1,by simp at h;omega⟩
   rw [QgK]
   have:=QnU (c:=c) (b :: r) m (by simp at h ⊢;omega)
   show c a b+chS c (b :: r)=_
   rw [this]
   rfl
def Qcg (f:Q2→Rat) (P:Nat→Q2):Nat→List Q2
 | 0=>[]
 | m+1=>Qcg f P m ++ QaM f (P m) (P (m+1))
def QaI (f:Q2→Rat) (P:Nat→Q2) (k:Nat):Q2:=QfR (P k) (P (k+1)) (f (P k) / (f (P k) - f (P (k+1))))
def QcG (c:Q2→Q2→Rat) (f:Q2→Rat) (P:Nat→Q2) (k:Nat):Rat :=
 if 0≤f (P k) then (if 0≤f (P (k+1)) then c (P k) (P (k+1)) else if 0 < f (P k) then c (P k) (QaI f P k) else 0)
 else (if 0 < f (P (k+1)) then c (QaI f P k) (P (k+1)) else 0)
theorem Qk9 {a:Rat} (h:¬ 0≤a):a < 0:=Rat.not_le.1 h
theorem mul_lt0 {a b:Rat}:a*b < 0 ↔ (0 < a∧b < 0) ∨ (a < 0∧0 < b):=by
 constructor
 · intro h
   rcases Qa3 0 a with p | p
   · refine .inl ⟨p,Rat.not_le.1 fun e=>?_⟩
     have:=Rat.mul_nonneg (Rat.le_of_lt p) e;grind
   · have ha:¬ a=0:=fun e=>by rw [e] at h;grind
     have ha2:a < 0:=Rat.lt_of_le_of_ne p ha
     refine .inr ⟨ha2,Rat.not_le.1 fun e=>?_⟩
     have:=Rat.mul_nonneg (show 0≤-a by grind) (show 0≤-b by grind);grind
 · rintro (⟨p,q⟩ | ⟨p,q⟩)
   · have:=Rat.mul_pos p (show 0 < -b by grind);grind
   · have:=Rat.mul_pos (show 0 < -a by grind) q;grind
section
variable {f:Q2→Rat} {P:Nat→Q2}
theorem Qsi {m:Nat} (h1:0≤f (P m)) (h2:0≤f (P (m+1))):QaM f (P m) (P (m+1))=[P m]:=by
 unfold QaM
 rw [if_pos h1,if_neg (fun e=>by rcases mul_lt0.1 e with ⟨a,b⟩ | ⟨a,b⟩ <;> grind)];rfl
theorem Qru {m:Nat} (h1:0 < f (P m)) (h2:f (P (m+1)) < 0):QaM f (P m) (P (m+1))=[P m,QaI f P m]:=by
 unfold QaM
 rw [if_pos (Rat.le_of_lt h1),if_pos (mul_lt0.2 (.inl ⟨h1,h2⟩))];rfl
theorem QrY {m:Nat} (h1:f (P m)=0) (_h2:f (P (m+1)) < 0):QaM f (P m) (P (m+1))=[P m]:=by
 unfold QaM
 rw [if_pos (by rw [h1];exact Rat.le_refl),if_neg (fun e=>by rcases mul_lt0.1 e with ⟨a,b⟩ | ⟨a,b⟩ <;> grind)];rfl
theorem Qsp {m:Nat} (h1:f (P m) < 0) (h2:0 < f (P (m+1))):QaM f (P m) (P (m+1))=[QaI f P m]:=by
 unfold QaM
 rw [if_neg (Rat.not_le.2 h1),if_pos (mul_lt0.2 (.inr ⟨h1,h2⟩))];rfl
theorem QsJ {m:Nat} (h1:f (P m) < 0) (h2:f (P (m+1))≤0):QaM f (P m) (P (m+1))=[]:=by
 unfold QaM
 rw [if_neg (Rat.not_le.2 h1),if_neg (fun e=>by rcases mul_lt0.1 e with ⟨a,b⟩ | ⟨a,b⟩ <;> grind)];rfl
structure EmInv (R:Q2→Q2→Prop) (Ex En:Q2→Prop) (c:Q2→Q2→Rat) (f:Q2→Rat) (P:Nat→Q2) (m:Nat) (E:List Q2):Prop where
 ch:Ch R E
 last:∀ u,E.getLast?=some u→(0≤f (P m)→R u (P m))∧(f (P m) < 0→Ex u)
 head:∀ u,E.head?=some u→(0≤f (P 0)→u=P 0)∧(f (P 0) < 0→En u)
 none:E=[]→(m=0 ∨ f (P 0) < 0)∧(m=0 ∨ f (P m) < 0 ∨ En (P m))∧QaK (QcG c f P) m=0
 sum:∀ u,E.getLast?=some u→chS c E+(if 0≤f (P m) then c u (P m) else 0)=QaK (QcG c f P) m
variable {R:Q2→Q2→Prop} {Ex En:Q2→Prop} {c:Q2→Q2→Rat}
theorem EmInv.put {m:Nat} {E:List Q2} (h:EmInv R Ex En c f P m E) (h0:0≤f (P m)):Ch R (E ++ [P m])∧(∀ u,(E ++ [P m]).head?=some u→(0≤f (P 0)→u=P 0)∧(f (P 0) < 0→En u))∧chS c (E ++ [P m])=QaK (QcG c f P) m:=by
 refine ⟨QiN h.ch fun u hu=>(h.last u hu).1 h0,fun u hu=>?_,?_⟩
 · cases E with
   | nil =>
     have e:P m=u:=by simpa using hu
     subst e
     obtain ⟨a,b,_⟩:=h.none rfl
     refine ⟨fun q=>?_,fun q=>?_⟩
     · rcases a with a | a
       · rw [a]
       · exact absurd q (Rat.not_le.2 a)
     · rcases b with b | b | b
       · subst b;exact absurd h0 (Rat.not_le.2 q)
       · exact absurd h0 (Rat.not_le.2 b)
       · exact b
   | cons a r=>exact h.head u (by simpa using hu)
 · cases E with
   | nil=>exact (h.none rfl).2.2.symm
   | cons a r =>
     obtain ⟨u,hu⟩:∃ u,(a :: r).getLast?=some u:=⟨_,List.getLast?_eq_some_getLast (by simp)⟩
     rw [Qf3 hu]
     have:=h.sum u hu
     rw [if_pos h0] at this
     exact this
theorem QmZ (hA:∀ k,0≤f (P k)→0≤f (P (k+1))→R (P k) (P (k+1)))
 (hB:∀ k,0 < f (P k)→f (P (k+1)) < 0→R (P k) (QaI f P k)∧Ex (QaI f P k))
 (hC:∀ k,f (P k)=0→f (P (k+1)) < 0→Ex (P k))
 (hD:∀ k,f (P k) < 0→0 < f (P (k+1))→En (QaI f P k)∧R (QaI f P k) (P (k+1)))
 (hE:∀ k,f (P k) < 0→f (P (k+1))=0→En (P (k+1)))
 (hF:∀ u v,Ex u→En v→R u v∧c u v=0) (m:Nat):EmInv R Ex En c f P m (Qcg f P m):=by
 induction m with
 | zero=>exact ⟨trivial,fun u h=>(by cases h),fun u h=>(by cases h),fun _=>⟨.inl rfl,.inl rfl,rfl⟩,fun u h=>(by cases h)⟩
 | succ m ih =>
   have hS:QaK (QcG c f P) (m+1)=QaK (QcG c f P) m+QcG c f P m:=rfl
   have hEm:Qcg f P (m+1)=Qcg f P m ++ QaM f (P m) (P (m+1)):=rfl
   by_cases h1:0≤f (P m)
   · obtain ⟨p1,p2,p3⟩:=ih.put h1
     by_cases h2:0≤f (P (m+1))
     · rw [hEm,Qsi h1 h2]
       have hc:QcG c f P m=c (P m) (P (m+1)):=by unfold QcG;rw [if_pos h1,if_pos h2]
       have hl:(Qcg f P m ++ [P m]).getLast?=some (P m):=by simp
       refine ⟨p1,fun u hu=>?_,p2,fun e=>by simp at e,fun u hu=>?_⟩
       · rw [hl] at hu;cases hu
         exact ⟨fun _=>hA m h1 h2,fun q=>absurd h2 (Rat.not_le.2 q)⟩
       · rw [hl] at hu;cases hu
         rw [if_pos h2,hS,hc,p3]
     · have h2':=Qk9 h2
       by_cases hz:f (P m)=0
       · rw [hEm,QrY hz h2']
         have hc:QcG c f P m=0:=by unfold QcG;rw [if_pos h1,if_neg h2,if_neg (by rw [hz];exact Rat.lt_irrefl)]
         have hl:(Qcg f P m ++ [P m]).getLast?=some (P m):=by simp
         refine ⟨p1,fun u hu=>?_,p2,fun e=>by simp at e,fun u hu=>?_⟩
         · rw [hl] at hu;cases hu
           exact ⟨fun q=>absurd q h2,fun _=>hC m hz h2'⟩
         · rw [if_neg h2,hS,hc,p3]
       · have h1':0 < f (P m):=Rat.lt_of_le_of_ne h1 fun e=>hz e.symm
         rw [hEm,Qru h1' h2']
         have hc:QcG c f P m=c (P m) (QaI f P m):=by unfold QcG;rw [if_pos h1,if_neg h2,if_pos h1']
         have e2:Qcg f P m ++ [P m,QaI f P m]=(Qcg f P m ++ [P m]) ++ [QaI f P m]:=by simp
         have hl:(Qcg f P m ++ [P m]).getLast?=some (P m):=by simp
         obtain ⟨b1,b2⟩:=hB m h1' h2'
         rw [e2]
         refine ⟨QiN p1 fun u hu=>by rw [hl] at hu;cases hu;exact b1,fun u hu=>?_,fun u hu=>?_,fun e=>by simp at e,fun u hu=>?_⟩
         · have:QaI f P m=u:=by simpa using hu
           subst this
           exact ⟨fun q=>absurd q h2,fun _=>b2⟩
         · refine p2 u ?_
           rw [List.head?_append] at hu
           cases hq:(Qcg f P m ++ [P m]).head? with
           | none=>simp at hq
           | some v=>rw [hq] at hu;simpa using hu
         · rw [if_neg h2,hS,hc,Qf3 hl,p3];grind
   · have h1':=Qk9 h1
     rcases Qa3 0 (f (P (m+1))) with h2 | h2
     · rw [hEm,Qsp h1' h2]
       obtain ⟨d1,d2⟩:=hD m h1' h2
       have hc:QcG c f P m=c (QaI f P m) (P (m+1)):=by unfold QcG;rw [if_neg h1,if_pos h2]
       have hl:(Qcg f P m ++ [QaI f P m]).getLast?=some (QaI f P m):=by simp
       have hs:chS c (Qcg f P m ++ [QaI f P m])=QaK (QcG c f P) m:=by
        cases hE':Qcg f P m with
        | nil=>exact (ih.none hE').2.2.symm
        | cons a r =>
          obtain ⟨u,hu⟩:∃ u,(a :: r).getLast?=some u:=⟨_,List.getLast?_eq_some_getLast (by simp)⟩
          rw [Qf3 hu]
          have h9:=ih.sum u (by rw [hE'];exact hu)
          rw [if_neg h1,hE'] at h9
          rw [(hF u _ ((ih.last u (by rw [hE'];exact hu)).2 h1') d1).2,← h9]
       refine ⟨QiN ih.ch fun u hu=>(hF u _ ((ih.last u hu).2 h1') d1).1,fun u hu=>?_,fun u hu=>?_,fun e=>by simp at e,fun u hu=>?_⟩
       · rw [hl] at hu;cases hu
         exact ⟨fun _=>d2,fun q=>absurd (Rat.le_of_lt h2) (Rat.not_le.2 q)⟩
       · cases hE':Qcg f P m with
         | nil =>
           rw [hE'] at hu
           have:QaI f P m=u:=by simpa using hu
           subst this
           obtain ⟨a,_,_⟩:=ih.none hE'
           refine ⟨fun q=>?_,fun _=>d1⟩
           rcases a with a | a
           · subst a;exact absurd q h1
           · exact absurd q (Rat.not_le.2 a)
         | cons a r =>
           rw [hE'] at hu
           exact ih.head u (by rw [hE'];simpa using hu)
       · rw [hl] at hu;cases hu
         rw [if_pos (Rat.le_of_lt h2),hS,hc,hs]
     · rw [hEm,QsJ h1' h2,List.append_nil]
       have hc:QcG c f P m=0:=by unfold QcG;rw [if_neg h1,if_neg (Rat.not_lt.2 h2)]
       have hsum:QaK (QcG c f P) (m+1)=QaK (QcG c f P) m:=by rw [hS,hc];grind
       have hn:0≤f (P (m+1))→En (P (m+1)):=fun q=>hE m h1' (Rat.le_antisymm h2 q)
       refine ⟨ih.ch,fun u hu=>⟨fun q=>(hF u _ ((ih.last u hu).2 h1') (hn q)).1,fun _=>(ih.last u hu).2 h1'⟩,ih.head,fun e=>?_,fun u hu=>?_⟩
       · obtain ⟨a,b,d⟩:=ih.none e
         refine ⟨.inr ?_,.inr ?_,by rw [hsum,d]⟩
         · rcases a with a | a
           · subst a;exact h1'
           · exact a
         · by_cases q:0≤f (P (m+1))
           · exact .inr (hn q)
           · exact .inl (Qk9 q)
       · have h9:=ih.sum u hu
         rw [if_neg h1] at h9
         rw [hsum,← h9]
         by_cases q:0≤f (P (m+1))
         · rw [if_pos q,(hF u _ ((ih.last u hu).2 h1') (hn q)).2]
         · rw [if_neg q]
theorem QhB {n:Nat} (hp:P n=P 0) (h:EmInv R Ex En c f P n (Qcg f P n)) (hF:∀ u v,Ex u→En v→R u v∧c u v=0) :
 (Qcg f P n=[]→QaK (QcG c f P) n=0)∧∀ u v,(Qcg f P n).head?=some u→(Qcg f P n).getLast?=some v→R v u∧chS c (Qcg f P n)+c v u=QaK (QcG c f P) n:=by
 refine ⟨fun e=>(h.none e).2.2,fun u v hu hv=>?_⟩
 have h1:=h.last v hv;have h2:=h.head u hu;have h3:=h.sum v hv
 rw [hp] at h1 h3
 by_cases q:0≤f (P 0)
 · rw [if_pos q] at h3
   rw [h2.1 q]
   exact ⟨h1.1 q,h3⟩
 · have q':=Qk9 q
   rw [if_neg q] at h3
   obtain ⟨a,b⟩:=hF v u (h1.2 q') (h2.2 q')
   exact ⟨a,by rw [b];exact h3⟩
end
end
section
open Go
/-! ### A list as a ring -/
def rp (l:List Q2) (k:Nat):Q2:=l.getD (k % l.length) (0,0)
theorem Qif (l:List Q2) (k:Nat):rp l k=(Qa5 l k,QaZ l k):=rfl
theorem Qi2 (l:List Q2) (k:Nat):rp l (k+l.length)=rp l k:=by unfold rp;rw [Nat.add_mod_right]
theorem QgL (l:List Q2) (k:Nat):rp l (k % l.length)=rp l k:=by unfold rp;rw [Nat.mod_mod]
theorem QhV {l:List Q2} {k:Nat} (h:k < l.length):l[k]?=some (rp l k):=by
 unfold rp
 rw [Nat.mod_eq_of_lt h,List.getD_eq_getElem?_getD,List.getElem?_eq_getElem h];rfl
theorem Qq1 {l:List Q2} (h:l ≠ []) (k:Nat):rp l k ∈ l:=by
 have h0:0 < l.length:=List.length_pos_iff.2 h
 rw [← QgL]
 exact List.mem_of_getElem? (QhV (Nat.mod_lt k h0))
theorem ring_R {R:Q2→Q2→Prop} {l:List Q2} (hne:l ≠ []) (hc:Ch R l) (hl:∀ u v,l.head?=some u→l.getLast?=some v→R v u) (k:Nat):R (rp l k) (rp l (k+1)):=by
 have h0:0 < l.length:=List.length_pos_iff.2 hne
 have key:∀ k,k < l.length→R (rp l k) (rp l (k+1)):=fun k hk=>by
  rcases Nat.lt_or_ge (k+1) l.length with q | q
  · exact ch_at hc k _ _ (QhV hk) (QhV q)
  · have e:k+1=0+l.length:=by omega
    rw [e,Qi2]
    refine hl _ _ ?_ ?_
    · rw [List.head?_eq_getElem?];exact QhV h0
    · rw [List.getLast?_eq_getElem?,show l.length - 1=k by omega];exact QhV hk
 have:=key (k % l.length) (Nat.mod_lt k h0)
 rw [QgL] at this
 have e:rp l (k % l.length+1)=rp l (k+1):=by rw [← QgL l (k+1),← QgL l (k % l.length+1),Nat.add_mod,Nat.mod_mod,← Nat.add_mod]
 rwa [e] at this
theorem ring_S {c:Q2→Q2→Rat} {l:List Q2} {u v:Q2} (hu:l.head?=some u) (hv:l.getLast?=some v):QaK (fun k=>c (rp l k) (rp l (k+1))) l.length=chS c l+c v u:=by
 have h0:0 < l.length:=by cases l with
  | nil=>cases hu
  | cons a r=>simp
 obtain ⟨m,hm⟩:∃ m,l.length=m+1:=⟨l.length - 1,by omega⟩
 rw [QnU l m hm,hm]
 have e1:rp l m=v:=by
  have:=QhV (l:=l) (k:=m) (by omega)
  rw [List.getLast?_eq_getElem?,show l.length - 1=m by omega,this] at hv
  cases hv;rfl
 have e2:rp l (m+1)=u:=by
  rw [← hm,show l.length=0+l.length by omega,Qi2]
  have:=QhV (l:=l) (k:=0) h0
  rw [List.head?_eq_getElem?,this] at hu
  cases hu;rfl
 show QaK _ m+c (rp l m) (rp l (m+1))=_
 rw [e1,e2]
 have:QaK (fun k=>c (rp l k) (rp l (k+1))) m=QaK (fun k=>c (l.getD k (0,0)) (l.getD (k+1) (0,0))) m:=QdP fun k hk=>by
  unfold rp;rw [Nat.mod_eq_of_lt (show k < l.length by omega),Nat.mod_eq_of_lt (show k+1 < l.length by omega)]
 rw [this]
def or3 (u v q:Q2):Rat:=crs (v.1 - u.1) (v.2 - u.2) (q.1 - u.1) (q.2 - u.2)
def crO (o u v:Q2):Rat:=crs (u.1 - o.1) (u.2 - o.2) (v.1 - o.1) (v.2 - o.2)
theorem Qop (o u v:Q2):crO o u v=or3 u v o:=by unfold crO or3 crs;grind
theorem QeS (l:List Q2) (o:Q2):QaK (fun k=>crO o (rp l k) (rp l (k+1))) l.length=QaK (QfJ (Qa5 l) (QaZ l)) l.length:=by
 rw [← Qn9 (QcA l) (Qcx l) (-o.1) (-o.2)]
 refine QdP fun k _=>?_
 unfold crO QfJ
 rw [Qif,Qif]
 simp only [Rat.sub_eq_add_neg]
theorem QnL {l:List Q2} {p:Q2} (h3:3≤l.length):QkC l p.1 p.2 ↔ ∀ k,0≤or3 (rp l k) (rp l (k+1)) p:=by
 have ho:∀ u v:Q2,0≤Qbz u.1 u.2 v.1 v.2 p.1 p.2 ↔ 0≤or3 u v p:=fun u v=>by
  unfold Qbz or3 crs Qdf
  constructor
  · intro h
    split at h
    · exact absurd h (by decide)
    · rename_i q;have:=Rat.not_lt.1 q;grind
  · intro h
    rw [if_neg (Rat.not_lt.2 (by grind))]
    split <;> decide
 constructor
 · intro h k
   have h1:=Qd6 (l:=l) (i:=k % l.length) (Nat.mod_lt _ (by omega))
   have:=(ho _ _).1 (h.2 _ _ _ h1.1 h1.2)
   rw [← Qif,← Qif,QgL] at this
   have e:rp l (k % l.length+1)=rp l (k+1):=by rw [← QgL l (k+1),← QgL l (k % l.length+1),Nat.add_mod,Nat.mod_mod,← Nat.add_mod]
   rwa [e] at this
 · intro h
   refine ⟨h3,fun i u v hu hv=>(ho u v).2 ?_⟩
   rw [Qen hu,Qen hv]
   exact h i
/-! ### A line through a convex ring -/
section
variable {n:Nat} {x y:Nat→Rat} {ax ay dx dy:Rat}
def Pt2 (x y:Nat→Rat) (k:Nat):Q2:=(x k,y k)
def sd (ax ay dx dy:Rat) (u:Q2):Rat:=crs dx dy (u.1 - ax) (u.2 - ay)
def InP (x y:Nat→Rat) (u:Q2):Prop:=∀ k,0≤or3 (Pt2 x y k) (Pt2 x y (k+1)) u
def Qjc (x y:Nat→Rat) (ax ay dx dy:Rat) (u v:Q2):Prop:=∀ q,InP x y q→0≤sd ax ay dx dy q→0≤or3 u v q
def QpP (x y:Nat→Rat) (ax ay dx dy:Rat) (u:Q2):Prop:=sd ax ay dx dy u=0∧∀ v,sd ax ay dx dy v=0→InP x y v→Qjc x y ax ay dx dy u v
def EntP (x y:Nat→Rat) (ax ay dx dy:Rat) (u:Q2):Prop:=sd ax ay dx dy u=0∧InP x y u
theorem Qmf (h:Conv n x y) (hx:∀ k,x (k+n)=x k) (hy:∀ k,y (k+n)=y k) (j:Nat):InP x y (Pt2 x y j):=fun k=>h.left' hx hy k j
theorem QqW {u v:Q2} {t:Rat} (hu:InP x y u) (hv:InP x y v) (t0:0≤t) (t1:t≤1):InP x y (QfR u v t):=fun k=>by
 have h1:=Rat.mul_nonneg (show 0≤1 - t by grind) (hu k)
 have h2:=Rat.mul_nonneg t0 (hv k)
 have e:or3 (Pt2 x y k) (Pt2 x y (k+1)) (QfR u v t)=(1 - t)*or3 (Pt2 x y k) (Pt2 x y (k+1)) u+t*or3 (Pt2 x y k) (Pt2 x y (k+1)) v:=by
  unfold or3 QfR crs;grind
 rw [e];grind
theorem Qoc (u v:Q2) (t:Rat):sd ax ay dx dy (QfR u v t)=(1 - t)*sd ax ay dx dy u+t*sd ax ay dx dy v:=by unfold sd QfR crs;grind
theorem Qe8 {f:Q2→Rat} {P:Nat→Q2} {k:Nat} (h:f (P k)*f (P (k+1)) < 0):∃ t,0 < t∧t < 1∧t*(f (P k) - f (P (k+1)))=f (P k)∧QaI f P k=QfR (P k) (P (k+1)) t:=by
 have hne:¬ f (P k) - f (P (k+1))=0:=fun e=>by
  rcases mul_lt0.1 h with ⟨a,b⟩ | ⟨a,b⟩ <;> grind
 have hd:f (P k) / (f (P k) - f (P (k+1)))*(f (P k) - f (P (k+1)))=f (P k):=Rat.div_mul_cancel hne
 refine ⟨f (P k) / (f (P k) - f (P (k+1))),?_,?_,hd,rfl⟩
 all_goals
  generalize f (P k) / (f (P k) - f (P (k+1)))=t at hd ⊢
  refine Rat.not_le.1 fun e=>?_
  rcases mul_lt0.1 h with ⟨a,b⟩ | ⟨a,b⟩
 · have:=Rat.mul_nonneg (show 0≤-t by grind) (show 0≤f (P k) - f (P (k+1)) by grind);grind
 · have:=Rat.mul_nonneg (show 0≤-t by grind) (show 0≤f (P (k+1)) - f (P k) by grind);grind
 · have:=Rat.mul_nonneg (show 0≤t - 1 by grind) (show 0≤f (P k) - f (P (k+1)) by grind);grind
 · have:=Rat.mul_nonneg (show 0≤t - 1 by grind) (show 0≤f (P (k+1)) - f (P k) by grind);grind
theorem QmX (hz:¬ (dx=0∧dy=0)) {m:Q2} {k:Nat} {t:Rat} (hm:sd ax ay dx dy m=0) (he:m=QfR (Pt2 x y k) (Pt2 x y (k+1)) t) (hd:sd ax ay dx dy (Pt2 x y (k+1)) < sd ax ay dx dy (Pt2 x y k)):QpP x y ax ay dx dy m:=by
 refine ⟨hm,fun v hv hin q _ hq=>?_⟩
 have h1:crs dx dy (v.1 - m.1) (v.2 - m.2)=0:=by unfold sd crs at *;grind
 obtain ⟨s,s1,s2⟩:=QcL hz h1
 have h2:=hin k
 have e2:or3 (Pt2 x y k) (Pt2 x y (k+1)) v=s*(sd ax ay dx dy (Pt2 x y k) - sd ax ay dx dy (Pt2 x y (k+1))):=by
  have q1:v.1=m.1+s*dx:=by grind
  have q2:v.2=m.2+s*dy:=by grind
  unfold or3
  rw [q1,q2,he]
  unfold sd QfR crs;grind
 rw [e2] at h2
 have hs:0≤s:=by
  refine Rat.not_lt.1 fun w=>?_
  have:=Rat.mul_pos (show 0 < -s by grind) (show 0 < sd ax ay dx dy (Pt2 x y k) - sd ax ay dx dy (Pt2 x y (k+1)) by grind)
  grind
 have e3:or3 m v q=s*(sd ax ay dx dy q - sd ax ay dx dy m):=by
  unfold or3;rw [s1,s2];unfold sd crs;grind
 rw [e3,hm]
 have:=Rat.mul_nonneg hs hq
 grind
theorem QmW (h:Conv n x y) (hx:∀ k,x (k+n)=x k) (hy:∀ k,y (k+n)=y k) (hz:¬ (dx=0∧dy=0)) {o:Q2} (ho:sd ax ay dx dy o=0) :
 (∀ m,EmInv (Qjc x y ax ay dx dy) (QpP x y ax ay dx dy) (EntP x y ax ay dx dy) (crO o) (sd ax ay dx dy) (Pt2 x y) m (Qcg (sd ax ay dx dy) (Pt2 x y) m))∧∀ u v,QpP x y ax ay dx dy u→EntP x y ax ay dx dy v→Qjc x y ax ay dx dy u v∧crO o u v=0:=by
 have hF:∀ u v,QpP x y ax ay dx dy u→EntP x y ax ay dx dy v→Qjc x y ax ay dx dy u v∧crO o u v=0:=fun u v hu hv=>by
  refine ⟨hu.2 v hv.1 hv.2,?_⟩
  have h1:=hu.1;have h2:=hv.1
  exact QgP hz (show crs dx dy (u.1 - o.1) (u.2 - o.2)=0 by unfold sd crs at *;grind) (show crs dx dy (v.1 - o.1) (v.2 - o.2)=0 by unfold sd crs at *;grind)
 refine ⟨fun m=>QmZ (fun k _ _=>fun q hq _=>hq k) (fun k h1 h2=>?_) (fun k h1 h2=>?_) (fun k h1 h2=>?_) (fun k _ h2=>⟨h2,Qmf h hx hy _⟩) hF m,hF⟩
 · obtain ⟨t,t0,t1,ht,he⟩:=Qe8 (f:=sd ax ay dx dy) (P:=Pt2 x y) (mul_lt0.2 (.inl ⟨h1,h2⟩))
   have hm:sd ax ay dx dy (QaI (sd ax ay dx dy) (Pt2 x y) k)=0:=by rw [he,Qoc];grind
   refine ⟨fun q hq _=>?_,QmX hz hm he (by grind)⟩
   have:=Rat.mul_nonneg (Rat.le_of_lt t0) (hq k)
   have e:or3 (Pt2 x y k) (QaI (sd ax ay dx dy) (Pt2 x y) k) q=t*or3 (Pt2 x y k) (Pt2 x y (k+1)) q:=by rw [he];unfold or3 QfR crs;grind
   rw [e];exact this
 · exact QmX hz (k:=k) (t:=0) h1 (by unfold QfR;simp [Rat.mul_zero,Rat.add_zero]) (by rw [h1];exact h2)
 · obtain ⟨t,t0,t1,ht,he⟩:=Qe8 (f:=sd ax ay dx dy) (P:=Pt2 x y) (mul_lt0.2 (.inr ⟨h1,h2⟩))
   have hm:sd ax ay dx dy (QaI (sd ax ay dx dy) (Pt2 x y) k)=0:=by rw [he,Qoc];grind
   refine ⟨⟨hm,by rw [he];exact QqW (Qmf h hx hy _) (Qmf h hx hy _) (Rat.le_of_lt t0) (Rat.le_of_lt t1)⟩,fun q hq _=>?_⟩
   have:=Rat.mul_nonneg (show 0≤1 - t by grind) (hq k)
   have e:or3 (QaI (sd ax ay dx dy) (Pt2 x y) k) (Pt2 x y (k+1)) q=(1 - t)*or3 (Pt2 x y k) (Pt2 x y (k+1)) q:=by rw [he];unfold or3 QfR crs;grind
   rw [e];exact this
theorem QkP (h:Conv n x y) (hx:∀ k,x (k+n)=x k) (hy:∀ k,y (k+n)=y k):∀ m u,u ∈ Qcg (sd ax ay dx dy) (Pt2 x y) m→InP x y u∧0≤sd ax ay dx dy u∧((∃ k,k < m∧u=Pt2 x y k) ∨ ∃ k t,k < m∧0 < t∧t < 1∧u=QfR (Pt2 x y k) (Pt2 x y (k+1)) t):=by
 intro m
 induction m with
 | zero=>intro u hu;cases hu
 | succ m ih =>
   intro u hu
   rcases List.mem_append.1 hu with q | q
   · obtain ⟨a,b,c⟩:=ih u q
     refine ⟨a,b,?_⟩
     rcases c with ⟨k,hk,e⟩ | ⟨k,t,hk,e⟩
     · exact .inl ⟨k,by omega,e⟩
     · exact .inr ⟨k,t,by omega,e⟩
   · unfold QaM at q
     rcases List.mem_append.1 q with q | q
     · split at q
       · rename_i hf
         rw [List.mem_singleton.1 q]
         exact ⟨Qmf h hx hy m,hf,.inl ⟨m,by omega,rfl⟩⟩
       · cases q
     · split at q
       · rename_i hf
         have hq:=List.mem_singleton.1 q
         obtain ⟨t,t0,t1,ht,he⟩:=Qe8 (f:=sd ax ay dx dy) (P:=Pt2 x y) hf
         have he':u=QfR (Pt2 x y m) (Pt2 x y (m+1)) t:=hq.trans he
         have hm:sd ax ay dx dy u=0:=by rw [he',Qoc];grind
         exact ⟨by rw [he'];exact QqW (Qmf h hx hy _) (Qmf h hx hy _) (Rat.le_of_lt t0) (Rat.le_of_lt t1),by rw [hm];exact Rat.le_refl,.inr ⟨m,t,by omega,t0,t1,he'⟩⟩
       · cases q
theorem QoE (h:Conv n x y) (hx:∀ k,x (k+n)=x k) (hy:∀ k,y (k+n)=y k):∀ m,m≤n→(Qcg (sd ax ay dx dy) (Pt2 x y) m).Nodup:=by
 intro m
 induction m with
 | zero=>intro _;exact List.nodup_nil
 | succ m ih =>
   intro hm
   have hmn:m < n:=by omega
   have vp:∀ {u:Q2} {k:Nat} {t:Rat},0 < t→t < 1→u=QfR (Pt2 x y k) (Pt2 x y (k+1)) t→∀ j,¬ u=Pt2 x y j:=fun {u k t} t0 t1 e j e2=>by
    rw [e] at e2;have e3:=congrArg Prod.fst e2;have e4:=congrArg Prod.snd e2
    simp only [QfR,Pt2] at e3 e4
    exact h.no_in hx hy (i:=j) (k:=k) t0 t1 (by unfold dd;grind) (by unfold dd;grind)
   have old1:Pt2 x y m ∉ Qcg (sd ax ay dx dy) (Pt2 x y) m:=fun hu=>by
    rcases (QkP h hx hy m _ hu).2.2 with ⟨k,hk,e⟩ | ⟨k,t,hk,t0,t1,e⟩
    · exact h.apart m k hmn (by omega) (by omega) ⟨congrArg Prod.fst e,congrArg Prod.snd e⟩
    · exact vp t0 t1 e m rfl
   have old2:∀ {t:Rat},0 < t→t < 1→QfR (Pt2 x y m) (Pt2 x y (m+1)) t ∉ Qcg (sd ax ay dx dy) (Pt2 x y) m:=fun {s} s0 s1 hu=>by
    rcases (QkP h hx hy m _ hu).2.2 with ⟨k,hk,e⟩ | ⟨k,t,hk,t0,t1,e⟩
    · exact vp s0 s1 rfl k e
    · have e3:=congrArg Prod.fst e
      have e4:=congrArg Prod.snd e
      simp only [QfR,Pt2] at e3 e4
      exact h.no_two hx hy (i:=k) (k:=m) (t:=s) (s:=t) (by rw [Nat.mod_eq_of_lt (show k < n by omega),Nat.mod_eq_of_lt hmn];omega) s0 s1 t0 t1 (by unfold dd;grind) (by unfold dd;grind)
   show (Qcg (sd ax ay dx dy) (Pt2 x y) m ++ QaM _ _ _).Nodup
   rw [List.nodup_append]
   have hst:∀ u ∈ QaM (sd ax ay dx dy) (Pt2 x y m) (Pt2 x y (m+1)),u ∉ Qcg (sd ax ay dx dy) (Pt2 x y) m:=fun u q=>by
    unfold QaM at q
    rcases List.mem_append.1 q with q | q
    · split at q
      · rw [List.mem_singleton.1 q];exact old1
      · cases q
    · split at q
      · rename_i hf
        obtain ⟨t,t0,t1,ht,he⟩:=Qe8 (f:=sd ax ay dx dy) (P:=Pt2 x y) hf
        rw [(List.mem_singleton.1 q).trans he];exact old2 t0 t1
      · cases q
   refine ⟨ih (by omega),?_,fun u hu v hv e=>hst v hv (by rw [← e];exact hu)⟩
   unfold QaM
   by_cases h1:0≤sd ax ay dx dy (Pt2 x y m)
   · by_cases h2:sd ax ay dx dy (Pt2 x y m)*sd ax ay dx dy (Pt2 x y (m+1)) < 0
     · rw [if_pos h1,if_pos h2]
       obtain ⟨t,t0,t1,ht,he⟩:=Qe8 (f:=sd ax ay dx dy) (P:=Pt2 x y) h2
       show [Pt2 x y m,QaI (sd ax ay dx dy) (Pt2 x y) m].Nodup
       rw [he]
       simp only [List.nodup_cons,List.mem_singleton,List.not_mem_nil,not_false_eq_true,List.nodup_nil,and_true]
       exact fun e=>vp t0 t1 rfl m e.symm
     · rw [if_pos h1,if_neg h2];simp
   · by_cases h2:sd ax ay dx dy (Pt2 x y m)*sd ax ay dx dy (Pt2 x y (m+1)) < 0
     · rw [if_neg h1,if_pos h2];simp
     · rw [if_neg h1,if_neg h2];simp
end
theorem Qd4 (f:Q2→Rat) (l:List Q2):QaH f l=Qcg f (Pt2 (Qa5 l) (QaZ l)) l.length:=by
 have:∀ m,m≤l.length→QcI f (Qav l) m=Qcg f (Pt2 (Qa5 l) (QaZ l)) m:=by
  intro m
  induction m with
  | zero=>intro _;rfl
  | succ m ih =>
    intro hm
    have h:=Qd6 (l:=l) (i:=m) (by omega)
    rw [QgU h.1 h.2,ih (by omega)];rfl
 exact this _ (Nat.le_refl _)
theorem QoK {f g:Q2→Rat} {P:Nat→Q2} {c:Q2→Q2→Rat} (hg:∀ u,g u=-f u) (hm:∀ u v t,c u (QfR u v t)+c (QfR u v t) v=c u v) (hz:∀ u v,f u=0→f v=0→c u v=0) (k:Nat):QcG c f P k+QcG c g P k=c (P k) (P (k+1)):=by
 have hx:QaI g P k=QaI f P k:=by
  unfold QaI
  rw [hg,hg]
  congr 1
  rw [show -f (P k) - -f (P (k+1))=-(f (P k) - f (P (k+1))) by grind,Rat.div_def,Rat.div_def]
  by_cases q:f (P k) - f (P (k+1))=0
  · rw [q];simp [Rat.neg_zero,Rat.inv_zero,Rat.mul_zero]
  · have e1:(f (P k) - f (P (k+1)))*(f (P k) - f (P (k+1)))⁻¹=1:=Rat.mul_inv_cancel _ q
    have e2:-(f (P k) - f (P (k+1)))*(-(f (P k) - f (P (k+1))))⁻¹=1:=Rat.mul_inv_cancel _ (by grind)
    generalize (f (P k) - f (P (k+1)))⁻¹=a at *
    generalize (-(f (P k) - f (P (k+1))))⁻¹=b at *
    have e3:b=-a:=by grind
    rw [e3];grind
 unfold QcG
 rw [hx,hg,hg]
 have hmm:c (P k) (QaI f P k)+c (QaI f P k) (P (k+1))=c (P k) (P (k+1)):=hm _ _ _
 have hzz:=hz (P k) (P (k+1))
 generalize f (P k)=a at *
 generalize f (P (k+1))=b at *
 by_cases a0:a=0
 · subst a0
   by_cases b0:b=0
   · subst b0
     simp [hzz rfl rfl,Rat.add_zero]
   · rcases Qa3 0 b with w | w
     · rw [if_pos Rat.le_refl,if_pos (Rat.le_of_lt w),if_pos (by grind),if_neg (Rat.not_le.2 (by grind)),if_neg (by grind)];grind
     · have w2:b < 0:=Rat.lt_of_le_of_ne w b0
       rw [if_pos Rat.le_refl,if_neg (Rat.not_le.2 w2),if_neg Rat.lt_irrefl,if_pos (by grind),if_pos (by grind)];grind
 · rcases Qa3 0 a with v | v
   · rw [if_pos (Rat.le_of_lt v),if_neg (c:=0≤-a) (by grind)]
     by_cases b0:b=0
     · subst b0
       rw [if_pos Rat.le_refl,if_neg (by grind)];grind
     · rcases Qa3 0 b with w | w
       · rw [if_pos (Rat.le_of_lt w),if_neg (by grind)];grind
       · have w2:b < 0:=Rat.lt_of_le_of_ne w b0
         rw [if_neg (Rat.not_le.2 w2),if_pos v,if_pos (by grind)];exact hmm
   · have v2:a < 0:=Rat.lt_of_le_of_ne v a0
     rw [if_neg (Rat.not_le.2 v2),if_pos (c:=0≤-a) (by grind)]
     by_cases b0:b=0
     · subst b0
       rw [if_neg Rat.lt_irrefl,if_pos (by grind)];grind
     · rcases Qa3 0 b with w | w
       · rw [if_pos w,if_neg (c:=0≤-b) (by grind),if_pos (by grind)];rw [← hmm];grind
       · have w2:b < 0:=Rat.lt_of_le_of_ne w b0
         rw [if_neg (c:=0 < b) (by grind),if_pos (by grind)];grind
section
variable {l:List Q2} {ax ay dx dy:Rat}
theorem QoC (hc:Conv l.length (Qa5 l) (QaZ l)) (hz:¬ (dx=0∧dy=0)) {o:Q2} (ho:sd ax ay dx dy o=0) :
 QaK (QfJ (Qa5 (QaH (sd ax ay dx dy) l)) (QaZ (QaH (sd ax ay dx dy) l))) (QaH (sd ax ay dx dy) l).length=QaK (QcG (crO o) (sd ax ay dx dy) (Pt2 (Qa5 l) (QaZ l))) l.length:=by
 obtain ⟨hi,hF⟩:=QmW (ax:=ax) (ay:=ay) hc (QcA l) (Qcx l) hz ho
 have hr:=QhB (n:=l.length) (P:=Pt2 (Qa5 l) (QaZ l)) (by
  have:=Qi2 l 0
  rw [Nat.zero_add] at this
  exact this) (hi _) hF
 rw [Qd4]
 cases hE:Qcg (sd ax ay dx dy) (Pt2 (Qa5 l) (QaZ l)) l.length with
 | nil=>rw [hr.1 hE];rfl
 | cons a r =>
   obtain ⟨v,hv⟩:∃ v,(a :: r).getLast?=some v:=⟨_,List.getLast?_eq_some_getLast (by simp)⟩
   have h2:=(hr.2 a v (by rw [hE];rfl) (by rw [hE];exact hv)).2
   rw [hE] at h2
   rw [← QeS _ o,ring_S (u:=a) (v:=v) rfl hv,h2]
theorem Qim (hc:Conv l.length (Qa5 l) (QaZ l)) (hz:¬ (dx=0∧dy=0)) (hne:QaH (sd ax ay dx dy) l ≠ []) (k:Nat):Qjc (Qa5 l) (QaZ l) ax ay dx dy (rp (QaH (sd ax ay dx dy) l) k) (rp (QaH (sd ax ay dx dy) l) (k+1)):=by
 obtain ⟨hi,hF⟩:=QmW (ax:=ax) (ay:=ay) (o:=(ax,ay)) hc (QcA l) (Qcx l) hz (by unfold sd crs;grind)
 have hr:=QhB (n:=l.length) (P:=Pt2 (Qa5 l) (QaZ l)) (by
  have:=Qi2 l 0
  rw [Nat.zero_add] at this
  exact this) (hi _) hF
 rw [Qd4] at hne ⊢
 exact ring_R hne (hi _).ch (fun u v hu hv=>(hr.2 u v hu hv).1) k
theorem Qrf (hc:Conv l.length (Qa5 l) (QaZ l)) {u:Q2} (hu:u ∈ QaH (sd ax ay dx dy) l):InP (Qa5 l) (QaZ l) u∧0≤sd ax ay dx dy u:=by
 rw [Qd4] at hu
 have:=QkP hc (QcA l) (Qcx l) _ u hu
 exact ⟨this.1,this.2.1⟩
theorem Qrd (hc:Conv l.length (Qa5 l) (QaZ l)) (hz:¬ (dx=0∧dy=0)):0≤QaK (QfJ (Qa5 (QaH (sd ax ay dx dy) l)) (QaZ (QaH (sd ax ay dx dy) l))) (QaH (sd ax ay dx dy) l).length:=by
 by_cases hne:QaH (sd ax ay dx dy) l=[]
 · rw [hne];exact Rat.le_refl
 · have hm:=Qrf (ax:=ax) (ay:=ay) (dx:=dx) (dy:=dy) hc (Qq1 hne 0)
   rw [← QeS _ (rp (QaH (sd ax ay dx dy) l) 0)]
   have:=Qle (f:=fun _=>0) (g:=fun k=>crO (rp (QaH (sd ax ay dx dy) l) 0) (rp (QaH (sd ax ay dx dy) l) k) (rp (QaH (sd ax ay dx dy) l) (k+1))) (n:=(QaH (sd ax ay dx dy) l).length) fun k _=>by
    rw [Qop]
    exact Qim hc hz hne k _ hm.1 hm.2
   have hz0:∀ m,QaK (fun _=>(0:Rat)) m=0:=fun m=>by
    induction m with
    | zero=>rfl
    | succ m ih=>rw [QaK,ih];grind
   rwa [hz0] at this
theorem Qh3 (hc:Conv l.length (Qa5 l) (QaZ l)) (hz:¬ (dx=0∧dy=0)) (hp:0 < QaK (QfJ (Qa5 (QaH (sd ax ay dx dy) l)) (QaZ (QaH (sd ax ay dx dy) l))) (QaH (sd ax ay dx dy) l).length) :
 Conv (QaH (sd ax ay dx dy) l).length (Qa5 (QaH (sd ax ay dx dy) l)) (QaZ (QaH (sd ax ay dx dy) l)):=by
 have hne:QaH (sd ax ay dx dy) l ≠ []:=fun e=>by rw [e] at hp;exact absurd hp Rat.lt_irrefl
 have hnd:(QaH (sd ax ay dx dy) l).Nodup:=by rw [Qd4];exact QoE hc (QcA l) (Qcx l) _ (Nat.le_refl _)
 have hS:=Qim (ax:=ax) (ay:=ay) hc hz hne
 have hO:∀ u ∈ QaH (sd ax ay dx dy) l,InP (Qa5 l) (QaZ l) u∧0≤sd ax ay dx dy u:=fun u hu=>Qrf hc hu
 rw [← QeS _ (rp (QaH (sd ax ay dx dy) l) 0)] at hp
 generalize QaH (sd ax ay dx dy) l=X at *
 have h0:0 < X.length:=List.length_pos_iff.2 hne
 have hsome:∃ k,k < X.length∧0 < or3 (rp X k) (rp X (k+1)) (rp X 0):=by
  refine Classical.byContradiction fun q=>?_
  have hle:=Qle (f:=fun k=>crO (rp X 0) (rp X k) (rp X (k+1))) (g:=fun _=>0) (n:=X.length) fun k hk=>by
   rw [Qop]
   exact Rat.not_lt.1 fun e=>q ⟨k,hk,e⟩
  have hz0:∀ m,QaK (fun _=>(0:Rat)) m=0:=fun m=>by
   induction m with
   | zero=>rfl
   | succ m ih=>rw [QaK,ih];grind
  rw [hz0] at hle
  grind
 obtain ⟨k,hk,hkp⟩:=hsome
 have h3:3≤X.length:=by
  refine Classical.byContradiction fun q=>?_
  have hcase:X.length=1 ∨ X.length=2:=by omega
  have per:=Qi2 X
  rcases hcase with e | e
  · rw [e] at per
    rw [per k] at hkp
    have:or3 (rp X k) (rp X k) (rp X 0)=0:=by unfold or3 crs;grind
    rw [this] at hkp
    exact absurd hkp Rat.lt_irrefl
  · rw [e] at per
    rcases (by omega:k=0 ∨ k=1) with rfl | rfl
    · have:or3 (rp X 0) (rp X (0+1)) (rp X 0)=0:=by unfold or3 crs;grind
      rw [this] at hkp
      exact absurd hkp Rat.lt_irrefl
    · have p2:=per 0
      rw [show (1:Nat)+1=0+2 from rfl,p2] at hkp
      have:or3 (rp X 1) (rp X 0) (rp X 0)=0:=by unfold or3 crs;grind
      rw [this] at hkp
      exact absurd hkp Rat.lt_irrefl
 refine ⟨h3,fun i j hi hj hij e=>hij ?_,fun i j hi hj=>?_,k,0,hk,h0,hkp⟩
 · have e1:=QhV hi
   have e2:=QhV hj
   have e3:rp X i=rp X j:=Prod.ext e.1 e.2
   rw [← e3] at e2
   exact (List.getElem?_inj hi hnd).1 (e1.trans e2.symm)
 · have hm:=hO _ (Qq1 hne j)
   exact hS i _ hm.1 hm.2
end
/-! ### Both halves -/
theorem QlC (ax ay bx by_:Rat):QaN ax ay bx by_=sd ax ay (bx - ax) (by_ - ay):=rfl
theorem QmR {v:Rat} (h:0≤v):0≤v*Rat.divInt 1 2:=Rat.mul_nonneg h (by decide +kernel)
theorem Qkm {v:Rat} (h:0 < v*Rat.divInt 1 2):0 < v:=by
 refine Rat.not_le.1 fun e=>?_
 have:=Rat.mul_nonneg (show 0≤-v by grind) (show (0:Rat)≤Rat.divInt 1 2 by decide +kernel)
 grind
theorem Qqd {l:List Q2} {ax ay bx by_:Rat} (hc:QdC l) (hne:¬ (ax=bx∧ay=by_)) :
 Qcn (QaH (QaN ax ay bx by_) l)+Qcn (QaH (QaN bx by_ ax ay) l)=Qcn l∧0≤Qcn (QaH (QaN ax ay bx by_) l)∧0≤Qcn (QaH (QaN bx by_ ax ay) l) ∧
 (0 < Qcn (QaH (QaN ax ay bx by_) l)→QdC (QaH (QaN ax ay bx by_) l))∧(0 < Qcn (QaH (QaN bx by_ ax ay) l)→QdC (QaH (QaN bx by_ ax ay) l)) ∧
 ∀ p:Q2,QkC l p.1 p.2→0≤Qbz ax ay bx by_ p.1 p.2→0 < Qcn (QaH (QaN ax ay bx by_) l)→QkC (QaH (QaN ax ay bx by_) l) p.1 p.2:=by
 have C:=(Qc8 l).1 hc
 have z1:¬ (bx - ax=0∧by_ - ay=0):=fun e=>hne ⟨by grind,by grind⟩
 have z2:¬ (ax - bx=0∧ay - by_=0):=fun e=>hne ⟨by grind,by grind⟩
 rw [QlC,QlC]
 refine ⟨?_,?_,?_,fun h=>?_,fun h=>?_,fun p hp ho h=>?_⟩
 · rw [Qcy,Qcy,Qcy,QoC C z1 (o:=(ax,ay)) (by unfold sd crs;grind),QoC C z2 (o:=(ax,ay)) (by unfold sd crs;grind),← QeS l (ax,ay)]
   rw [← Rat.add_mul,← Qi1]
   congr 1
   refine QdP fun k _=>?_
   refine QoK (fun u=>by unfold sd crs;grind) (fun u v t=>by unfold crO QfR crs;grind) (fun u v hu hv=>?_) k
   exact QgP z1 hu hv
 · rw [Qcy];exact QmR (Qrd C z1)
 · rw [Qcy];exact QmR (Qrd C z2)
 · rw [Qcy] at h;exact (Qc8 _).2 (Qh3 C z1 (Qkm h))
 · rw [Qcy] at h;exact (Qc8 _).2 (Qh3 C z2 (Qkm h))
 · rw [Qcy] at h
   have h':=Qkm h
   have X:=Qh3 C z1 h'
   have hin:InP (Qa5 l) (QaZ l) p:=(QnL C.three).1 hp
   have hsd:0≤sd ax ay (bx - ax) (by_ - ay) p:=by
    unfold Qbz Qdf at ho
    unfold sd crs
    split at ho
    · exact absurd ho (by decide)
    · rename_i q;have:=Rat.not_lt.1 q;grind
   have hne':QaH (sd ax ay (bx - ax) (by_ - ay)) l ≠ []:=fun e=>by have:=X.three;rw [e] at this;simp at this
   exact (QnL X.three).2 fun k=>Qim C z1 hne' k p hin hsd
end
end Go.Proofs.YthbhngeiiabagaaGreat
