/- HalveCuts: part 14. -/
import Derived.Test.YtfpaeophfcoohaaGreatKHalveCuts8
import Derived.Test.YtfpaeophfcoohaaGreatKHalveCuts10
import Derived.Test.YtfpaeophfcoohaaGreatKHalveCuts12
import Derived.Test.YtfpaeophfcoohaaGreatKHalveCuts13
set_option linter.unusedVariables false
set_option maxRecDepth 100000
set_option maxHeartbeats 16000000
variable {w:Go.World}
namespace Go.Proofs.YtfpaeophfcoohaaGreat
section
open Go Go.RowKit
attribute [local go_sem ↓] open_LVH open_STH open_LVJ open_STJ
abbrev hwV:List AH:=(quadH [(Rat.divInt 0 1,Rat.divInt 0 1),(Rat.divInt 2 1,Rat.divInt 4 1),(Rat.divInt 4 1,Rat.divInt 0 1)])
theorem hw_good:GoodH hwV:=by
 refine ⟨by decide,fun u hu=>?_⟩
 simp only [hwV,quadH,List.map_cons,List.map_nil,List.mem_cons,List.not_mem_nil,or_false] at hu
 rcases hu with rfl | rfl | rfl <;> decide
theorem hw_l0:(lf (vfn hwV) 1).w ≠ 0:=by decide +kernel
theorem hw_r0:(rg 3 (vfn hwV) 0).w ≠ 0:=by decide +kernel
theorem hw_la:decide ((lf (vfn hwV) 1).px=Rat.divInt 1 1∧(lf (vfn hwV) 1).py=Rat.divInt 2 1)=true:=by decide +kernel
theorem hw_ra:decide ((rg 3 (vfn hwV) 0).px=Rat.divInt 2 1∧(rg 3 (vfn hwV) 0).py=Rat.divInt 2 1)=true:=by decide +kernel
theorem hw_many {A:Option Addr} {c:Nat} {L:List HV} (hL:SV w A (hvs L)) (hE:EachH HR w L hwV 1) (hn:L.length=3) :
 Calls Tryz.prog 21 #[.slice A 3 c,.int .i64 2] w fun e w'=>∃ A' c',e=.returned (.tuple #[.slice A' 4 c',.int .i64 0])∧Below w.heap.size w w':=by
 have h:=hmany_ok (c:=c) (d:=2) hL hE hn (by decide) (by decide) (by decide) hw_good (by decide)
 rw [show ((2:Nat):Int)=2 from rfl] at h
 refine h.mono ?_
 rintro e w' ⟨v',b,R',rfl,_,hs,_,_,hb⟩
 obtain ⟨A,c,e,_⟩:=hs.form
 exact ⟨A,c,by rw [e,pl_length],hb⟩
theorem wakes14_any (w:World):Calls Tryz.prog 18 #[] w fun e w'=>e=.returned (.bool true)∧Below w.heap.size w w':=by
 have hb:Below w.heap.size w w:=Below.refl _ _
 go_enter Tryz.func18,Tryz.ntmps18
 go_upto_region 3 with (first
  | (go_at_call 32;(with_reducible refine (lawP 0 0 (by decide) (by decide) (by decide) (by decide) _).mono ?_);rintro e w_p ⟨s_p,A_p,n_p,c_p,B_p,m_p,d_p,t_p,E_p,i_p,e_p,F_p,j_p,f_p,rfl,p,hh⟩
     replace hb:=bend hb hh)
  | (go_at_call 32;(with_reducible refine (lawP 2 4 (by decide) (by decide) (by decide) (by decide) _).mono ?_);rintro e w_q ⟨s_q,A_q,n_q,c_q,B_q,m_q,d_q,t_q,E_q,i_q,e_q,F_q,j_q,f_q,rfl,q,hh⟩
     (try replace p:=p.below hh);replace hb:=bend hb hh)
  | (go_at_call 32;(with_reducible refine (lawP 4 0 (by decide) (by decide) (by decide) (by decide) _).mono ?_);rintro e w_r ⟨s_r,A_r,n_r,c_r,B_r,m_r,d_r,t_r,E_r,i_r,e_r,F_r,j_r,f_r,rfl,r,hh⟩
     (try replace p:=p.below hh);(try replace q:=q.below hh);replace hb:=bend hb hh)
  | (go_at_call 33;(with_reducible refine (cquad p q r (by decide)).mono ?_);rintro e w_u ⟨v1,M1,rfl,l1,e1,hh⟩
     replace hb:=bend hb hh
     obtain ⟨A_x,c_x,rfl,_,_⟩:=l1.form
     have hM1:M1.length=3:=e1.1
     rw [hM1] at l1 ⊢
     have LM1:=l1.sv;clear p q r)
  | (go_at_call 20;(with_reducible refine (hCut_ok (n:=3) LM1 e1.hr hM1 (by decide) (by decide) hw_good).mono ?_);rintro e w_c ⟨AL,AR,LL,LR,rfl,sL,eL,nL,sR,eR,nR,hh⟩
     replace hb:=bend hb hh;clear l1 e1 LM1 hM1))
 go_upto_region 4 with (first
  | (go_at_call 32;(with_reducible refine (lawP 0 0 (by decide) (by decide) (by decide) (by decide) _).mono ?_);rintro e w_p ⟨s_p,A_p,n_p,c_p,B_p,m_p,d_p,t_p,E_p,i_p,e_p,F_p,j_p,f_p,rfl,p,hh⟩
     (try replace sL:=sL.below hh);(try replace sR:=sR.below hh);replace hb:=bend hb hh;replace eL:=EachH.belowG eL hh;replace eR:=EachH.belowG eR hh)
  | (go_at_call 32;(with_reducible refine (lawP 2 4 (by decide) (by decide) (by decide) (by decide) _).mono ?_);rintro e w_q ⟨s_q,A_q,n_q,c_q,B_q,m_q,d_q,t_q,E_q,i_q,e_q,F_q,j_q,f_q,rfl,q,hh⟩
     (try replace p:=p.below hh);(try replace sL:=sL.below hh);(try replace sR:=sR.below hh);replace hb:=bend hb hh;replace eL:=EachH.belowG eL hh;replace eR:=EachH.belowG eR hh)
  | (go_at_call 32;(with_reducible refine (lawP 4 0 (by decide) (by decide) (by decide) (by decide) _).mono ?_);rintro e w_r ⟨s_r,A_r,n_r,c_r,B_r,m_r,d_r,t_r,E_r,i_r,e_r,F_r,j_r,f_r,rfl,r,hh⟩
     (try replace p:=p.below hh);(try replace q:=q.below hh);(try replace sL:=sL.below hh);(try replace sR:=sR.below hh);replace hb:=bend hb hh;replace eL:=EachH.belowG eL hh;replace eR:=EachH.belowG eR hh)
  | (go_at_call 33;(with_reducible refine (cquad p q r (by decide)).mono ?_);rintro e w_u2 ⟨v2,M2,rfl,l2,e2,hh⟩
     (try replace sL:=sL.below hh);(try replace sR:=sR.below hh);replace hb:=bend hb hh
     obtain ⟨A_y,c_y,rfl,_,_⟩:=l2.form
     have hM2:M2.length=3:=e2.1
     rw [hM2] at l2 ⊢
     have LM2:=l2.sv;clear p q r;replace eL:=EachH.belowG eL hh;replace eR:=EachH.belowG eR hh)
  | (go_at_call 21;(with_reducible refine (hw_many LM2 e2.hr hM2).mono ?_);rintro e w_m ⟨A_m,c_m,rfl,hh⟩
     (try replace sL:=sL.below hh);(try replace sR:=sR.below hh);replace hb:=bend hb hh;clear l2 e2 LM2 hM2;replace eL:=EachH.belowG eL hh;replace eR:=EachH.belowG eR hh))
 go_upto_region 6 with (fail)
 obtain ⟨P,u,hP,hu,hp⟩:=eL.at_ (i:=1) (by rw [nL];decide)
 obtain rfl:lf (vfn hwV) 1=u:=by
  rw [li_get (n:=3) _ (by decide)] at hu
  exact Option.some.inj hu
 obtain ⟨g0,o0,hix0,EP,_⟩:=sL.ht hP
 have hixa:∀ (w':World),(Instr.indexAt 37 (.slice AL 3 3) (.int .i64 1)).run Tryz.prog w'=.ok (.pointer (some ⟨g0,o0,none⟩)) w':=fun w'=>hix0 3 3 w' (by decide)
 have epl:=EP.ldH;clear hu hP hix0
 go_upto_region 7 with (first
  | (go_at_call 30;(with_reducible refine (cpoint_p hp.hr (by decide) (by decide) hw_l0).mono ?_);rintro e w_a ⟨s_a,A_a,n_a,c_a,B_a,m_a,d_a,t_a,E_a,i_a,e_a,F_a,j_a,f_a,rfl,a,hh⟩
     (try replace sR:=sR.below hh);replace hb:=bend hb hh;replace eR:=EachH.belowG eR hh))
 clear hixa epl EP hp sL eL
 have XA:=B6.new' w_a (Value.bool s_a) (Value.slice A_a n_a c_a) (Value.slice B_a m_a d_a) (Value.bool t_a) (Value.slice E_a i_a e_a) (Value.slice F_a j_a f_a) w_a.heap.size rfl
 have hh:Below w_a.heap.size w_a (w_a.alloc (Obj.cells #[Value.bool s_a,Value.slice A_a n_a c_a,Value.slice B_a m_a d_a,Value.bool t_a,Value.slice E_a i_a e_a,Value.slice F_a j_a f_a] 28)):=(Below.refl w_a.heap.size w_a).alloc (Nat.le_refl _) _
 generalize (w_a.alloc (Obj.cells #[Value.bool s_a,Value.slice A_a n_a c_a,Value.slice B_a m_a d_a,Value.bool t_a,Value.slice E_a i_a e_a,Value.slice F_a j_a f_a] 28))=W2 at *
 replace a:=a.below hh;replace sR:=sR.below hh;replace eR:=EachH.belowG eR hh;replace hb:=bend hb hh;clear hh
 obtain ⟨Q,u,hQ,hu,hq⟩:=eR.at_ (i:=0) (by rw [nR];decide)
 obtain rfl:rg 3 (vfn hwV) 0=u:=by
  rw [li_get (n:=3) _ (by decide)] at hu
  exact Option.some.inj hu
 obtain ⟨g1,o1,hix1,EQ,_⟩:=sR.ht hQ
 have hixb:∀ (w':World),(Instr.indexAt 37 (.slice AR 3 3) (.int .i64 0)).run Tryz.prog w'=.ok (.pointer (some ⟨g1,o1,none⟩)) w':=fun w'=>hix1 3 3 w' (by decide)
 have eql:=EQ.ldH;clear hu hQ hix1
 go_upto_region 8 with (first
  | (go_at_call 30;(with_reducible refine (cpoint_p hq.hr (by decide) (by decide) hw_r0).mono ?_);rintro e w_b ⟨s_b,A_b,n_b,c_b,B_b,m_b,d_b,t_b,E_b,i_b,e_b,F_b,j_b,f_b,rfl,b,hh⟩
     (try replace a:=a.below hh);(try replace XA:=XA.below hh);replace hb:=bend hb hh))
 clear hixb eql EQ hq sR eR
 have HlA:Hid (w_a.heap.size < w_b.heap.size):=XA.lt
 have XB:=B6.new' w_b (Value.bool s_b) (Value.slice A_b n_b c_b) (Value.slice B_b m_b d_b) (Value.bool t_b) (Value.slice E_b i_b e_b) (Value.slice F_b j_b f_b) w_b.heap.size rfl
 have hh:Below w_b.heap.size w_b (w_b.alloc (Obj.cells #[Value.bool s_b,Value.slice A_b n_b c_b,Value.slice B_b m_b d_b,Value.bool t_b,Value.slice E_b i_b e_b,Value.slice F_b j_b f_b] 28)):=(Below.refl w_b.heap.size w_b).alloc (Nat.le_refl _) _
 generalize (w_b.alloc (Obj.cells #[Value.bool s_b,Value.slice A_b n_b c_b,Value.slice B_b m_b d_b,Value.bool t_b,Value.slice E_b i_b e_b,Value.slice F_b j_b f_b] 28))=W3 at *
 replace a:=a.below hh;replace b:=b.below hh;replace XA:=XA.below hh;replace hb:=bend hb hh;clear hh
 replace a:=a.below (Below.refl _ _).drew
 replace b:=b.below (Below.refl _ _).drew
 replace XA:=XA.below (Below.refl _ _).drew
 replace XB:=XB.below (Below.refl _ _).drew
 replace hb:=hb.drew
 refine wp_region_held_drew (S:=(fun w'=>w'.cell? ⟨w_a.heap.size,0,none⟩=some (.bool s_a)∧w'.cell? ⟨w_a.heap.size,1,none⟩=some (.slice A_a n_a c_a)∧w'.cell? ⟨w_a.heap.size,2,none⟩=some (.slice B_a m_a d_a)∧w'.cell? ⟨w_a.heap.size,3,none⟩=some (.bool t_a)∧w'.cell? ⟨w_a.heap.size,4,none⟩=some (.slice E_a i_a e_a)∧w'.cell? ⟨w_a.heap.size,5,none⟩=some (.slice F_a j_a f_a)∧w'.cell? ⟨w_b.heap.size,0,none⟩=some (.bool s_b)∧w'.cell? ⟨w_b.heap.size,1,none⟩=some (.slice A_b n_b c_b)∧w'.cell? ⟨w_b.heap.size,2,none⟩=some (.slice B_b m_b d_b)∧w'.cell? ⟨w_b.heap.size,3,none⟩=some (.bool t_b)∧w'.cell? ⟨w_b.heap.size,4,none⟩=some (.slice E_b i_b e_b)∧w'.cell? ⟨w_b.heap.size,5,none⟩=some (.slice F_b j_b f_b))) (by kernel_rfl) (by with_reducible exact ⟨XA.c0,XA.c1,XA.c2,XA.c3,XA.c4,XA.c5,XB.c0,XB.c1,XB.c2,XB.c3,XB.c4,XB.c5⟩) (fun hHeld=>?_)
 refine wpAnyH_take (i:=0) (oi:=⟨some 69,.move (.tmp 8),38, "law.go:26",#[],none⟩) (v:=?_) rfl (by kernel_rfl) (by kernel_rfl) (by kernel_rfl) (fun _ _ _ h=>h) (Or.inl ⟨by rfl,?_⟩) hHeld ?_
 rotate_left
 · (intro w hSw;(try dsimp only at hSw);go_simp;try with_reducible rfl)
 simp only [Act.put,List.setIfInBounds_toArray,List.set_cons_zero,List.set_cons_succ]
 refine wpAnyH_take (i:=1) (oi:=⟨some 70,.binOp BinOp.eql 38 (.tmp 69) (.const (Value.int IntKind.i64 0)) 38,4, "law.go:26",#[⟨0,.data⟩],none⟩) (v:=?_) rfl (by kernel_rfl) (by kernel_rfl) (by kernel_rfl) (fun _ _ _ h=>h) (Or.inl ⟨by rfl,?_⟩) hHeld ?_
 rotate_left
 · (intro w hSw;(try dsimp only at hSw);go_simp;try with_reducible rfl)
 simp only [Act.put,List.setIfInBounds_toArray,List.set_cons_zero,List.set_cons_succ]
 refine wpAnyH_take (i:=2) (oi:=⟨some 71,.move (.tmp 70),4, "law.go:26",#[⟨1,.data⟩],none⟩) (v:=?_) rfl (by kernel_rfl) (by kernel_rfl) (by kernel_rfl) (fun _ _ _ h=>h) (Or.inl ⟨by rfl,?_⟩) hHeld ?_
 rotate_left
 · (intro w hSw;(try dsimp only at hSw);go_simp;try with_reducible rfl)
 simp only [Act.put,List.setIfInBounds_toArray,List.set_cons_zero,List.set_cons_succ]
 refine wpAnyH_take (i:=3) (oi:=⟨some 72,.move (.tmp 10),38, "law.go:26",#[⟨2,.guard⟩],some (2,true)⟩) (v:=?_) rfl (by kernel_rfl) (by kernel_rfl) (by kernel_rfl) (fun _ _ _ h=>h) (Or.inl ⟨by rfl,?_⟩) hHeld ?_
 rotate_left
 · (intro w hSw;(try dsimp only at hSw);go_simp;try with_reducible rfl)
 simp only [Act.put,List.setIfInBounds_toArray,List.set_cons_zero,List.set_cons_succ]
 refine wpAnyH_take (i:=4) (oi:=⟨some 73,.binOp BinOp.eql 38 (.tmp 72) (.const (Value.int IntKind.i64 0)) 38,4, "law.go:26",#[⟨3,.data⟩,⟨2,.guard⟩],some (2,true)⟩) (v:=?_) rfl (by kernel_rfl) (by kernel_rfl) (by kernel_rfl) (fun _ _ _ h=>h) (Or.inl ⟨by rfl,?_⟩) hHeld ?_
 rotate_left
 · (intro w hSw;(try dsimp only at hSw);go_simp;try with_reducible rfl)
 simp only [Act.put,List.setIfInBounds_toArray,List.set_cons_zero,List.set_cons_succ]
 refine wpAnyH_take (i:=5) (oi:=⟨some 74,.pick (.tmp 71) (.tmp 73) (.const (Value.bool false)),4, "law.go:26",#[⟨2,.data⟩,⟨4,.data⟩],none⟩) (v:=?_) rfl (by kernel_rfl) (by kernel_rfl) (by kernel_rfl) (fun _ _ _ h=>h) (Or.inl ⟨by rfl,?_⟩) hHeld ?_
 rotate_left
 · (intro w hSw;(try dsimp only at hSw);go_simp;try with_reducible rfl)
 simp only [Act.put,List.setIfInBounds_toArray,List.set_cons_zero,List.set_cons_succ]
 refine wpAnyH_take (i:=6) (oi:=⟨some 75,.move (.tmp 74),4, "law.go:26",#[⟨5,.data⟩,⟨2,.chain⟩],none⟩) (v:=?_) rfl (by kernel_rfl) (by kernel_rfl) (by kernel_rfl) (fun _ _ _ h=>h) (Or.inl ⟨by rfl,?_⟩) hHeld ?_
 rotate_left
 · (intro w hSw;(try dsimp only at hSw);go_simp;try with_reducible rfl)
 simp only [Act.put,List.setIfInBounds_toArray,List.set_cons_zero,List.set_cons_succ]
 refine wpAnyH_take (i:=7) (oi:=⟨some 76,.load 28 (.tmp 7),28, "law.go:26",#[⟨6,.guard⟩],some (6,true)⟩) (v:=?_) rfl (by kernel_rfl) (by kernel_rfl) (by kernel_rfl) (fun _ _ _ h=>h) (Or.inl ⟨by rfl,?_⟩) hHeld ?_
 rotate_left
 · (intro w hSw;(try dsimp only at hSw);go_simp;try with_reducible rfl)
 simp only [Act.put,List.setIfInBounds_toArray,List.set_cons_zero,List.set_cons_succ]
 refine wpAnyH_take (i:=8) (oi:=⟨some 77,.move (.tmp 1),85, "law.go:26",#[⟨6,.guard⟩],some (6,true)⟩) (v:=?_) rfl (by kernel_rfl) (by kernel_rfl) (by kernel_rfl) (fun _ _ _ h=>h) (Or.inl ⟨by rfl,?_⟩) hHeld ?_
 rotate_left
 · (intro w hSw;(try dsimp only at hSw);go_simp;try with_reducible rfl)
 simp only [Act.put,List.setIfInBounds_toArray,List.set_cons_zero,List.set_cons_succ]
 refine wpAnyH_ready (rs:=[9]) (by kernel_rfl) (by simp) ?_
 refine AllReadyH.cons (o:=⟨some 78,.call ⟨.value (.tmp 77),#[.const (Value.int IntKind.i64 1),.const (Value.int IntKind.i64 2)],#[2,2]⟩,28, "law.go:26",#[⟨8,.data⟩,⟨6,.chain⟩,⟨6,.guard⟩],some (6,true)⟩) rfl (fun K1 hK1=>?_) AllReadyH.nil
 go_simp
 first
 | (go_at_call 32;(with_reducible refine (lawP 1 2 (by decide) (by decide) (by decide) (by decide) _).mono ?_);rintro e w_p ⟨s_p,A_p,n_p,c_p,B_p,m_p,d_p,t_p,E_p,i_p,e_p,F_p,j_p,f_p,rfl,p,hh⟩
    (try replace a:=a.below hh);(try replace b:=b.below hh);(try replace XA:=XA.below hh);(try replace XB:=XB.below hh);(try replace p:=p.below hh);replace hb:=bend hb hh)
 | (go_at_call 27;(with_reducible refine (psame_p a.pr p.pr (by decide) (by decide) (by decide) (by decide) true hw_la).mono ?_);rintro e w_s ⟨rfl,hh⟩
    (try replace a:=a.below hh);(try replace b:=b.below hh);(try replace XA:=XA.below hh);(try replace XB:=XB.below hh);(try replace p:=p.below hh);replace hb:=bend hb hh;clear p)
 | (go_at_call 32;(with_reducible refine (lawP 2 2 (by decide) (by decide) (by decide) (by decide) _).mono ?_);rintro e w_p ⟨s_p,A_p,n_p,c_p,B_p,m_p,d_p,t_p,E_p,i_p,e_p,F_p,j_p,f_p,rfl,p,hh⟩
    (try replace a:=a.below hh);(try replace b:=b.below hh);(try replace XA:=XA.below hh);(try replace XB:=XB.below hh);(try replace p:=p.below hh);replace hb:=bend hb hh)
 | (go_at_call 27;(with_reducible refine (psame_p b.pr p.pr (by decide) (by decide) (by decide) (by decide) true hw_ra).mono ?_);rintro e w_t ⟨rfl,hh⟩
    (try replace a:=a.below hh);(try replace b:=b.below hh);(try replace XA:=XA.below hh);(try replace XB:=XB.below hh);(try replace p:=p.below hh);replace hb:=bend hb hh;clear p)
 refine hK1.out _ _ (by with_reducible exact ⟨XA.c0,XA.c1,XA.c2,XA.c3,XA.c4,XA.c5,XB.c0,XB.c1,XB.c2,XB.c3,XB.c4,XB.c5⟩) (fun hHeld=>?_)
 clear hK1 K1
 refine wpAnyH_ready (rs:=[10]) (by kernel_rfl) (by simp) ?_
 refine AllReadyH.cons (o:=⟨some 79,.call ⟨.value (.func 27),#[.tmp 76,.tmp 78],#[28,28]⟩,4, "law.go:26",#[⟨7,.data⟩,⟨9,.data⟩,⟨9,.chain⟩,⟨6,.guard⟩],some (6,true)⟩) rfl (fun K1 hK1=>?_) AllReadyH.nil
 go_simp
 first
 | (go_at_call 32;(with_reducible refine (lawP 1 2 (by decide) (by decide) (by decide) (by decide) _).mono ?_);rintro e w_p ⟨s_p,A_p,n_p,c_p,B_p,m_p,d_p,t_p,E_p,i_p,e_p,F_p,j_p,f_p,rfl,p,hh⟩
    (try replace a:=a.below hh);(try replace b:=b.below hh);(try replace XA:=XA.below hh);(try replace XB:=XB.below hh);(try replace p:=p.below hh);replace hb:=bend hb hh)
 | (go_at_call 27;(with_reducible refine (psame_p a.pr p.pr (by decide) (by decide) (by decide) (by decide) true hw_la).mono ?_);rintro e w_s ⟨rfl,hh⟩
    (try replace a:=a.below hh);(try replace b:=b.below hh);(try replace XA:=XA.below hh);(try replace XB:=XB.below hh);(try replace p:=p.below hh);replace hb:=bend hb hh;clear p)
 | (go_at_call 32;(with_reducible refine (lawP 2 2 (by decide) (by decide) (by decide) (by decide) _).mono ?_);rintro e w_p ⟨s_p,A_p,n_p,c_p,B_p,m_p,d_p,t_p,E_p,i_p,e_p,F_p,j_p,f_p,rfl,p,hh⟩
    (try replace a:=a.below hh);(try replace b:=b.below hh);(try replace XA:=XA.below hh);(try replace XB:=XB.below hh);(try replace p:=p.below hh);replace hb:=bend hb hh)
 | (go_at_call 27;(with_reducible refine (psame_p b.pr p.pr (by decide) (by decide) (by decide) (by decide) true hw_ra).mono ?_);rintro e w_t ⟨rfl,hh⟩
    (try replace a:=a.below hh);(try replace b:=b.below hh);(try replace XA:=XA.below hh);(try replace XB:=XB.below hh);(try replace p:=p.below hh);replace hb:=bend hb hh;clear p)
 refine hK1.out _ _ (by with_reducible exact ⟨XA.c0,XA.c1,XA.c2,XA.c3,XA.c4,XA.c5,XB.c0,XB.c1,XB.c2,XB.c3,XB.c4,XB.c5⟩) (fun hHeld=>?_)
 clear hK1 K1
 refine wpAnyH_take (i:=11) (oi:=⟨some 80,.pick (.tmp 75) (.tmp 79) (.const (Value.bool false)),4, "law.go:26",#[⟨6,.data⟩,⟨10,.data⟩],none⟩) (v:=?_) rfl (by kernel_rfl) (by kernel_rfl) (by kernel_rfl) (fun _ _ _ h=>h) (Or.inl ⟨by rfl,?_⟩) hHeld ?_
 rotate_left
 · (intro w hSw;(try dsimp only at hSw);go_simp;try with_reducible rfl)
 simp only [Act.put,List.setIfInBounds_toArray,List.set_cons_zero,List.set_cons_succ]
 refine wpAnyH_take (i:=12) (oi:=⟨some 81,.move (.tmp 80),4, "law.go:26",#[⟨11,.data⟩,⟨10,.chain⟩],none⟩) (v:=?_) rfl (by kernel_rfl) (by kernel_rfl) (by kernel_rfl) (fun _ _ _ h=>h) (Or.inl ⟨by rfl,?_⟩) hHeld ?_
 rotate_left
 · (intro w hSw;(try dsimp only at hSw);go_simp;try with_reducible rfl)
 simp only [Act.put,List.setIfInBounds_toArray,List.set_cons_zero,List.set_cons_succ]
 refine wpAnyH_take (i:=13) (oi:=⟨some 82,.load 28 (.tmp 9),28, "law.go:26",#[⟨12,.guard⟩],some (12,true)⟩) (v:=?_) rfl (by kernel_rfl) (by kernel_rfl) (by kernel_rfl) (fun _ _ _ h=>h) (Or.inl ⟨by rfl,?_⟩) hHeld ?_
 rotate_left
 · (intro w hSw;(try dsimp only at hSw);go_simp;try with_reducible rfl)
 simp only [Act.put,List.setIfInBounds_toArray,List.set_cons_zero,List.set_cons_succ]
 refine wpAnyH_take (i:=14) (oi:=⟨some 83,.move (.tmp 1),85, "law.go:26",#[⟨12,.guard⟩],some (12,true)⟩) (v:=?_) rfl (by kernel_rfl) (by kernel_rfl) (by kernel_rfl) (fun _ _ _ h=>h) (Or.inl ⟨by rfl,?_⟩) hHeld ?_
 rotate_left
 · (intro w hSw;(try dsimp only at hSw);go_simp;try with_reducible rfl)
 simp only [Act.put,List.setIfInBounds_toArray,List.set_cons_zero,List.set_cons_succ]
 refine wpAnyH_ready (rs:=[15]) (by kernel_rfl) (by simp) ?_
 refine AllReadyH.cons (o:=⟨some 84,.call ⟨.value (.tmp 83),#[.const (Value.int IntKind.i64 2),.const (Value.int IntKind.i64 2)],#[2,2]⟩,28, "law.go:26",#[⟨14,.data⟩,⟨12,.chain⟩,⟨12,.guard⟩],some (12,true)⟩) rfl (fun K1 hK1=>?_) AllReadyH.nil
 go_simp
 first
 | (go_at_call 32;(with_reducible refine (lawP 1 2 (by decide) (by decide) (by decide) (by decide) _).mono ?_);rintro e w_p ⟨s_p,A_p,n_p,c_p,B_p,m_p,d_p,t_p,E_p,i_p,e_p,F_p,j_p,f_p,rfl,p,hh⟩
    (try replace a:=a.below hh);(try replace b:=b.below hh);(try replace XA:=XA.below hh);(try replace XB:=XB.below hh);(try replace p:=p.below hh);replace hb:=bend hb hh)
 | (go_at_call 27;(with_reducible refine (psame_p a.pr p.pr (by decide) (by decide) (by decide) (by decide) true hw_la).mono ?_);rintro e w_s ⟨rfl,hh⟩
    (try replace a:=a.below hh);(try replace b:=b.below hh);(try replace XA:=XA.below hh);(try replace XB:=XB.below hh);(try replace p:=p.below hh);replace hb:=bend hb hh;clear p)
 | (go_at_call 32;(with_reducible refine (lawP 2 2 (by decide) (by decide) (by decide) (by decide) _).mono ?_);rintro e w_p ⟨s_p,A_p,n_p,c_p,B_p,m_p,d_p,t_p,E_p,i_p,e_p,F_p,j_p,f_p,rfl,p,hh⟩
    (try replace a:=a.below hh);(try replace b:=b.below hh);(try replace XA:=XA.below hh);(try replace XB:=XB.below hh);(try replace p:=p.below hh);replace hb:=bend hb hh)
 | (go_at_call 27;(with_reducible refine (psame_p b.pr p.pr (by decide) (by decide) (by decide) (by decide) true hw_ra).mono ?_);rintro e w_t ⟨rfl,hh⟩
    (try replace a:=a.below hh);(try replace b:=b.below hh);(try replace XA:=XA.below hh);(try replace XB:=XB.below hh);(try replace p:=p.below hh);replace hb:=bend hb hh;clear p)
 refine hK1.out _ _ (by with_reducible exact ⟨XA.c0,XA.c1,XA.c2,XA.c3,XA.c4,XA.c5,XB.c0,XB.c1,XB.c2,XB.c3,XB.c4,XB.c5⟩) (fun hHeld=>?_)
 clear hK1 K1
 refine wpAnyH_ready (rs:=[16]) (by kernel_rfl) (by simp) ?_
 refine AllReadyH.cons (o:=⟨some 85,.call ⟨.value (.func 27),#[.tmp 82,.tmp 84],#[28,28]⟩,4, "law.go:26",#[⟨13,.data⟩,⟨15,.data⟩,⟨15,.chain⟩,⟨12,.guard⟩],some (12,true)⟩) rfl (fun K1 hK1=>?_) AllReadyH.nil
 go_simp
 first
 | (go_at_call 32;(with_reducible refine (lawP 1 2 (by decide) (by decide) (by decide) (by decide) _).mono ?_);rintro e w_p ⟨s_p,A_p,n_p,c_p,B_p,m_p,d_p,t_p,E_p,i_p,e_p,F_p,j_p,f_p,rfl,p,hh⟩
    (try replace a:=a.below hh);(try replace b:=b.below hh);(try replace XA:=XA.below hh);(try replace XB:=XB.below hh);(try replace p:=p.below hh);replace hb:=bend hb hh)
 | (go_at_call 27;(with_reducible refine (psame_p a.pr p.pr (by decide) (by decide) (by decide) (by decide) true hw_la).mono ?_);rintro e w_s ⟨rfl,hh⟩
    (try replace a:=a.below hh);(try replace b:=b.below hh);(try replace XA:=XA.below hh);(try replace XB:=XB.below hh);(try replace p:=p.below hh);replace hb:=bend hb hh;clear p)
 | (go_at_call 32;(with_reducible refine (lawP 2 2 (by decide) (by decide) (by decide) (by decide) _).mono ?_);rintro e w_p ⟨s_p,A_p,n_p,c_p,B_p,m_p,d_p,t_p,E_p,i_p,e_p,F_p,j_p,f_p,rfl,p,hh⟩
    (try replace a:=a.below hh);(try replace b:=b.below hh);(try replace XA:=XA.below hh);(try replace XB:=XB.below hh);(try replace p:=p.below hh);replace hb:=bend hb hh)
 | (go_at_call 27;(with_reducible refine (psame_p b.pr p.pr (by decide) (by decide) (by decide) (by decide) true hw_ra).mono ?_);rintro e w_t ⟨rfl,hh⟩
    (try replace a:=a.below hh);(try replace b:=b.below hh);(try replace XA:=XA.below hh);(try replace XB:=XB.below hh);(try replace p:=p.below hh);replace hb:=bend hb hh;clear p)
 refine hK1.out _ _ (by with_reducible exact ⟨XA.c0,XA.c1,XA.c2,XA.c3,XA.c4,XA.c5,XB.c0,XB.c1,XB.c2,XB.c3,XB.c4,XB.c5⟩) (fun hHeld=>?_)
 clear hK1 K1
 refine wpAnyH_take (i:=17) (oi:=⟨some 86,.pick (.tmp 81) (.tmp 85) (.const (Value.bool false)),4, "law.go:26",#[⟨12,.data⟩,⟨16,.data⟩],none⟩) (v:=?_) rfl (by kernel_rfl) (by kernel_rfl) (by kernel_rfl) (fun _ _ _ h=>h) (Or.inl ⟨by rfl,?_⟩) hHeld ?_
 rotate_left
 · (intro w hSw;(try dsimp only at hSw);go_simp;try with_reducible rfl)
 simp only [Act.put,List.setIfInBounds_toArray,List.set_cons_zero,List.set_cons_succ]
 refine wpAnyH_take (i:=18) (oi:=⟨some 0,.assign (.tmp 86),4, "law.go:26",#[⟨17,.data⟩,⟨16,.chain⟩,⟨0,.phase⟩,⟨1,.phase⟩,⟨2,.phase⟩,⟨3,.phase⟩,⟨4,.phase⟩,⟨5,.phase⟩,⟨6,.phase⟩,⟨7,.phase⟩,⟨8,.phase⟩,⟨9,.phase⟩,⟨10,.phase⟩,⟨11,.phase⟩,⟨12,.phase⟩,⟨13,.phase⟩,⟨14,.phase⟩,⟨15,.phase⟩,⟨16,.phase⟩,⟨17,.phase⟩],none⟩) (v:=?_) rfl (by kernel_rfl) (by kernel_rfl) (by kernel_rfl) (fun _ _ _ h=>h) (Or.inl ⟨by rfl,?_⟩) hHeld ?_
 rotate_left
 · (intro w hSw;(try dsimp only at hSw);go_simp;try with_reducible rfl)
 simp only [Act.put,List.setIfInBounds_toArray,List.set_cons_zero]
 refine wpAnyH_done (by kernel_rfl) ?_ _
 go_wp2_with fail
 go_ret;exact ⟨rfl,hb⟩
end
section
open Go Go.RowKit
attribute [local go_sem ↓] open_LVH open_STH open_LVJ open_STJ
theorem goodH_li {n:Nat} {v:Nat→AH} (h:2≤n∧n≤4) (hp:∀ k,k < n→0 < (v k).w):GoodH (li n v) :=
 ⟨by rw [li_length];exact h,fun u hu=>by
  obtain ⟨i,hi⟩:=List.getElem?_of_mem hu
  have hl:=(List.getElem?_eq_some_iff.1 hi).1
  rw [li_length] at hl;rw [li_get _ hl] at hi
  cases hi
  exact hp i hl⟩
theorem GoodH.vpos {V:List AH} (h:GoodH V) {n:Nat} (hn:V.length=n):∀ k,k < n→0 < (vfn V k).w:=fun k hk=>by
 obtain ⟨u,hu⟩:∃ u,V[k]?=some u:=⟨_,List.getElem?_eq_getElem (by omega)⟩
 have e:vfn V k=u:=by show V.getD k ⟨0,0,0⟩=u;rw [List.getD_eq_getElem?_getD,hu];rfl
 rw [e]
 exact h.2 u (List.mem_of_getElem? hu)
theorem GoodH.lf {V:List AH} (h:GoodH V) {n:Nat} (hn:V.length=n):GoodH (li n (lf (vfn V))) :=
 goodH_li (by rw [← hn];exact h.1) fun k hk=>nd_pos (h.vpos hn) k 0 (by omega)
theorem GoodH.rg {V:List AH} (h:GoodH V) {n:Nat} (hn:V.length=n):GoodH (li n (rg n (vfn V))) :=
 goodH_li (by rw [← hn];exact h.1) fun k hk=>nd_pos (h.vpos hn) (n - 1 - k) k (by omega)
theorem li_vfn' {V:List AH} {n:Nat} (hn:V.length=n):li n (vfn V)=V:=by subst hn;exact li_vfn V
end
end Go.Proofs.YtfpaeophfcoohaaGreat
