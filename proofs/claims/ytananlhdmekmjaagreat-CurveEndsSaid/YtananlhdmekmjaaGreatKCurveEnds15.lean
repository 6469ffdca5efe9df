/- CurveEnds: part 15. -/
import Derived.Lib.SmallJoins
import Derived.OpenShut
import Derived.Test.YtananlhdmekmjaaGreatKCurveEnds0
import Derived.Test.YtananlhdmekmjaaGreatKCurveEnds10
import Derived.Test.YtananlhdmekmjaaGreatKCurveEnds11
import Derived.Test.YtananlhdmekmjaaGreatKCurveEnds14
set_option linter.unusedVariables false
set_option maxRecDepth 100000
set_option maxHeartbeats 16000000
variable {w:Go.World}
variable {s_p t_p:Bool} {A_p B_p E_p F_p:Option Go.Addr} {n_p c_p m_p d_p i_p e_p j_p f_p:Nat}
namespace Go.Proofs.YtananlhdmekmjaaGreat
section
open Go Go.RowKit
attribute [local go_sem ↓] open_LVM open_STM open_LVN open_STN
attribute [local go_sem ↓] open_LVH open_STH open_LVJ open_STJ
instance (V:List AH):Decidable (GoodH V):=by unfold GoodH;exact inferInstance
abbrev wkV0:List AH:=(quadH [(Rat.divInt 0 1,Rat.divInt 0 1),(Rat.divInt 1 1,Rat.divInt 2 1),(Rat.divInt 2 1,Rat.divInt 0 1)])
abbrev wkU:SV8:=(⟨5,64,128,128,0,0,0,128⟩:SV8)
abbrev wkV1:List AH:=(ofL AM.one (Rat.divInt 0 1) (Rat.divInt 0 1) (⟨5,64,128,128,0,0,0,128⟩:SV8) 2)
theorem wk13_good:GoodH wkV0:=by decide +kernel
theorem wk13_good1:GoodH wkV1:=by decide +kernel
theorem wk13_t0:0≤Rat.divInt 1 2:=by decide +kernel
theorem wk13_t1:Rat.divInt 1 2≤1:=by decide +kernel
theorem wk13_ts:sgnQ (Rat.divInt 1 2)=1:=by decide +kernel
theorem wk13_us:sgnQ (Rat.divInt 3 2)=1:=by decide +kernel
theorem wk13_u1:1 < Rat.divInt 3 2:=by decide +kernel
theorem wk13_at:decide ((bez (Rat.divInt 1 2) wkV0).px=Rat.divInt 1 1∧(bez (Rat.divInt 1 2) wkV0).py=Rat.divInt 1 1)=true:=by decide +kernel
theorem wk13_w:(⟨(qtxt (ofA AM.one wkU 0).w).toArray⟩:ByteArray)=⟨#[50]⟩:=by
 rw [qtxt_i (a:=2) (by decide +kernel) (by decide +kernel) (txt_one (d:=2) (by decide) (by decide) rfl)];rfl
theorem wk13_y:(⟨(qtxt (ofA AM.one wkU 0).y).toArray⟩:ByteArray)=⟨#[52]⟩:=by
 rw [qtxt_i (a:=4) (by decide +kernel) (by decide +kernel) (txt_one (d:=4) (by decide) (by decide) rfl)];rfl
theorem wk13_in:wkU.In:=⟨by unfold i64In;decide,fun i=>by
 match i with
 | 0=>show i64In 64;unfold i64In;decide
 | 1=>show i64In 128;unfold i64In;decide
 | 2=>show i64In 128;unfold i64In;decide
 | 3=>show i64In 0;unfold i64In;decide
 | 4=>show i64In 0;unfold i64In;decide
 | i+5=>show i64In 0;unfold i64In;decide,by unfold i64In;decide⟩
theorem wk_of {m:MV} (p:PG w s_p A_p n_p c_p B_p m_p d_p t_p E_p i_p e_p F_p j_p f_p (Rat.divInt 0 1) (Rat.divInt 0 1) 1) (M:MG w m AM.one 1 1) :
 Calls Tryz.prog 11 #[.agg #[.bool s_p,.slice A_p n_p c_p,.slice B_p m_p d_p,.bool t_p,.slice E_p i_p e_p,.slice F_p j_p f_p],.agg #[.int .i64 5,.int .i64 64,.int .i64 128,.int .i64 128,.int .i64 0,.int .i64 0,.int .i64 0,.int .i64 128],.agg #[.bool m.a.s,.slice m.a.A m.a.n m.a.c,.slice m.a.B m.a.m m.a.d,.bool m.b.s,.slice m.b.A m.b.n m.b.c,.slice m.b.B m.b.m m.b.d,.bool m.c.s,.slice m.c.A m.c.n m.c.c,.slice m.c.B m.c.m m.c.d,.bool m.d.s,.slice m.d.A m.d.n m.d.c,.slice m.d.B m.d.m m.d.d,.bool m.e.s,.slice m.e.A m.e.n m.e.c,.slice m.e.B m.e.m m.e.d,.bool m.f.s,.slice m.f.A m.f.n m.f.c,.slice m.f.B m.f.m m.f.d]] w (GivesHsE w wkV1 8) :=
 cof_5 (u:=wkU) p.pr M.mr wk13_in (by decide) (by decide) (by decide) (by decide) (by decide) 2 rfl (by decide) rfl (by decide)
theorem wakes13_any (w:World):Calls Tryz.prog 10 #[] w fun e w'=>e=.returned (.bool true)∧Below w.heap.size w w':=by
 have hb:Below w.heap.size w w:=Below.refl _ _
 go_enter Tryz.func10,Tryz.ntmps10
 go_upto_region 3 with (first
  | (go_at_call 38;(with_reducible refine (lawP 0 0 (by decide) (by decide) (by decide) (by decide) _).mono ?_);rintro e w_p ⟨s_p,A_p,n_p,c_p,B_p,m_p,d_p,t_p,E_p,i_p,e_p,F_p,j_p,f_p,rfl,p,hh⟩
     replace hb:=bend hb hh)
  | (go_at_call 38;(with_reducible refine (lawP 1 2 (by decide) (by decide) (by decide) (by decide) _).mono ?_);rintro e w_q ⟨s_q,A_q,n_q,c_q,B_q,m_q,d_q,t_q,E_q,i_q,e_q,F_q,j_q,f_q,rfl,q,hh⟩
     (try replace p:=p.below hh);replace hb:=bend hb hh)
  | (go_at_call 38;(with_reducible refine (lawP 2 0 (by decide) (by decide) (by decide) (by decide) _).mono ?_);rintro e w_r ⟨s_r,A_r,n_r,c_r,B_r,m_r,d_r,t_r,E_r,i_r,e_r,F_r,j_r,f_r,rfl,r,hh⟩
     (try replace p:=p.below hh);(try replace q:=q.below hh);replace hb:=bend hb hh)
  | (go_at_call 39;(with_reducible refine (cquad p q r (by decide)).mono ?_);rintro e w_u ⟨v1,M1,rfl,l1,e1,hh⟩
     replace hb:=bend hb hh
     obtain ⟨A_x,c_x,rfl,_,_⟩:=l1.form
     have hM1:M1.length=3:=e1.1
     rw [hM1] at l1 ⊢
     have LM1:=l1.sv)
  | (go_at_call 31;(with_reducible refine (rof_q 1 2 (by decide) (by decide) (by decide) (by decide) (by decide) _).mono ?_);rintro e w_h ⟨s_h,A_h,n_h,c_h,B_h,m_h,d_h,rfl,h,hh⟩
     (try replace LM1:=LM1.below hh);replace hb:=bend hb hh;replace e1:=EachH.belowG e1 hh)
  | (go_at_call 21;(with_reducible refine (cat_p1 (n:=3) LM1 e1.hr hM1 h.qr (by decide) (by decide) (by decide) (by decide) wk13_good wk13_t0 wk13_t1 wk13_ts).mono ?_);rintro e w_a ⟨s_a,A_a,n_a,c_a,B_a,m_a,d_a,t_a,E_a,i_a,e_a,F_a,j_a,f_a,rfl,a,hh⟩
     replace hb:=bend hb hh))
 clear p q r LM1 l1 e1 h
 have XQ:=B6.new' w_a (Value.bool s_a) (Value.slice A_a n_a c_a) (Value.slice B_a m_a d_a) (Value.bool t_a) (Value.slice E_a i_a e_a) (Value.slice F_a j_a f_a) w_a.heap.size rfl
 have hh:Below w_a.heap.size w_a (w_a.alloc (Obj.cells #[Value.bool s_a,Value.slice A_a n_a c_a,Value.slice B_a m_a d_a,Value.bool t_a,Value.slice E_a i_a e_a,Value.slice F_a j_a f_a] 28)):=(Below.refl w_a.heap.size w_a).alloc (Nat.le_refl _) _
 generalize (w_a.alloc (Obj.cells #[Value.bool s_a,Value.slice A_a n_a c_a,Value.slice B_a m_a d_a,Value.bool t_a,Value.slice E_a i_a e_a,Value.slice F_a j_a f_a] 28))=W2 at *
 replace a:=a.below hh;replace hb:=bend hb hh;clear hh
 have hcO:Hid True:=trivial
 go_upto_region 4 with (first
  | (go_at_call 38;(with_reducible refine (lawP 0 0 (by decide) (by decide) (by decide) (by decide) _).mono ?_);rintro e w_p ⟨s_p,A_p,n_p,c_p,B_p,m_p,d_p,t_p,E_p,i_p,e_p,F_p,j_p,f_p,rfl,p,hh⟩
     (try replace a:=a.below hh);(try replace XQ:=XQ.below hh);replace hb:=bend hb hh)
  | (go_at_call 33;(with_reducible refine (mone_p _).mono ?_);rintro e w_m ⟨m,rfl,mh,hh⟩
     (try replace a:=a.below hh);(try replace XQ:=XQ.below hh);(try replace p:=p.below hh);replace hb:=bend hb hh)
  | (go_at_call 11;(with_reducible refine (wk_of p mh).mono ?_);rintro e w_l ⟨v2,M2,rfl,l2,e2,hh⟩
     (try replace a:=a.below hh);(try replace XQ:=XQ.below hh);replace hb:=bend hb hh
     obtain ⟨A_y,c_y,rfl,_,_⟩:=l2.form
     have hM2:M2.length=3:=e2.1
     rw [hM2] at l2 ⊢
     have LM2:=l2.sv;clear p mh))
 go_upto_region 5 with (first
  | (go_at_call 31;(with_reducible refine (rof_q 3 2 (by decide) (by decide) (by decide) (by decide) (by decide) _).mono ?_);rintro e w_h ⟨s_h,A_h,n_h,c_h,B_h,m_h,d_h,rfl,h,hh⟩
     (try replace LM2:=LM2.below hh);(try replace a:=a.below hh);(try replace XQ:=XQ.below hh);replace hb:=bend hb hh;replace e2:=EachH.belowG e2 hh)
  | (go_at_call 21;(with_reducible refine (cat_g1 (n:=3) LM2 e2.hr hM2 h.qr (by decide) (by decide) (by decide) (by decide) ⟨fun _=>wk13_good1,fun _=>rfl⟩ wk13_us wk13_u1).mono ?_);rintro e w_b ⟨rfl,hh⟩
     (try replace LM2:=LM2.below hh);(try replace a:=a.below hh);(try replace XQ:=XQ.below hh);replace hb:=bend hb hh;replace e2:=EachH.belowG e2 hh;clear h))
 clear l2
 have XU:=B6.new' w_b (Value.bool false) (Value.slice none 0 0) (Value.slice none 0 0) (Value.bool false) (Value.slice none 0 0) (Value.slice none 0 0) w_b.heap.size rfl
 have hh:Below w_b.heap.size w_b (w_b.alloc (Obj.cells #[Value.bool false,Value.slice none 0 0,Value.slice none 0 0,Value.bool false,Value.slice none 0 0,Value.slice none 0 0] 28)):=(Below.refl w_b.heap.size w_b).alloc (Nat.le_refl _) _
 generalize (w_b.alloc (Obj.cells #[Value.bool false,Value.slice none 0 0,Value.slice none 0 0,Value.bool false,Value.slice none 0 0,Value.slice none 0 0] 28))=W4 at *
 replace a:=a.below hh;replace XQ:=XQ.below hh;replace LM2:=LM2.below hh;replace e2:=EachH.belowG e2 hh;replace hb:=bend hb hh;clear hh
 obtain ⟨P,u,hP,hu,hp⟩:=e2.at_ (i:=1) (by rw [hM2];decide)
 obtain rfl:ofA AM.one wkU 0=u:=by
  have:=hu
  simp [ofL] at this
  exact this
 obtain ⟨g0,o0,hix0,EP,_⟩:=LM2.ht hP
 have hixa:∀ (c:Nat) (w':World),(Instr.indexAt 37 (.slice A_y 3 c) (.int .i64 1)).run Tryz.prog w'=.ok (.pointer (some ⟨g0,o0,none⟩)) w':=fun c w'=>hix0 3 c w' (by decide)
 have hG1:true=true ↔ GoodH wkV1:=⟨fun _=>wk13_good1,fun _=>rfl⟩
 clear hu hP hix0 XU
 replace a:=a.below (Below.refl _ _).drew
 replace XQ:=XQ.below (Below.refl _ _).drew
 replace LM2:=LM2.below (Below.refl _ _).drew
 replace EP:=EP.below (Below.refl _ _).drew
 replace hp:=hp.below (Below.refl _ _).drew
 replace hb:=hb.drew
 replace e2:=EachH.belowG e2 (Below.refl _ _).drew
 refine wp_region_held_drew (S:=(fun w'=>w'.cell? ⟨w_a.heap.size,0,none⟩=some (.bool s_a)∧w'.cell? ⟨w_a.heap.size,1,none⟩=some (.slice A_a n_a c_a)∧w'.cell? ⟨w_a.heap.size,2,none⟩=some (.slice B_a m_a d_a)∧w'.cell? ⟨w_a.heap.size,3,none⟩=some (.bool t_a)∧w'.cell? ⟨w_a.heap.size,4,none⟩=some (.slice E_a i_a e_a)∧w'.cell? ⟨w_a.heap.size,5,none⟩=some (.slice F_a j_a f_a)∧w'.cell? ⟨g0,o0+3,none⟩=some (.bool P.y.s)∧w'.cell? ⟨g0,o0+4,none⟩=some (.slice P.y.A P.y.n P.y.c)∧w'.cell? ⟨g0,o0+5,none⟩=some (.slice P.y.B P.y.m P.y.d)∧w'.cell? ⟨g0,o0+6,none⟩=some (.bool P.w.s)∧w'.cell? ⟨g0,o0+7,none⟩=some (.slice P.w.A P.w.n P.w.c)∧w'.cell? ⟨g0,o0+8,none⟩=some (.slice P.w.B P.w.m P.w.d))) (by kernel_rfl) (by with_reducible exact ⟨XQ.c0,XQ.c1,XQ.c2,XQ.c3,XQ.c4,XQ.c5,EP.c3,EP.c4,EP.c5,EP.c6,EP.c7,EP.c8⟩) (fun hHeld=>?_)
 refine wpAnyH_take (i:=0) (oi:=⟨some 35,.move (.tmp 3),38, "law.go:37",#[],none⟩) (v:=?_) rfl (by kernel_rfl) (by kernel_rfl) (by kernel_rfl) (fun _ _ _ h=>h) (Or.inl ⟨by rfl,?_⟩) hHeld ?_
 rotate_left
 · (intro w hSw;(try dsimp only at hSw);go_simp;try with_reducible rfl)
 simp only [Act.put,List.setIfInBounds_toArray,List.set_cons_zero,List.set_cons_succ]
 refine wpAnyH_take (i:=1) (oi:=⟨some 36,.binOp BinOp.eql 38 (.tmp 35) (.const (Value.int IntKind.i64 0)) 38,4, "law.go:37",#[⟨0,.data⟩],none⟩) (v:=?_) rfl (by kernel_rfl) (by kernel_rfl) (by kernel_rfl) (fun _ _ _ h=>h) (Or.inl ⟨by rfl,?_⟩) hHeld ?_
 rotate_left
 · (intro w hSw;(try dsimp only at hSw);go_simp;try with_reducible rfl)
 simp only [Act.put,List.setIfInBounds_toArray,List.set_cons_zero,List.set_cons_succ]
 refine wpAnyH_take (i:=2) (oi:=⟨some 37,.move (.tmp 36),4, "law.go:37",#[⟨1,.data⟩],none⟩) (v:=?_) rfl (by kernel_rfl) (by kernel_rfl) (by kernel_rfl) (fun _ _ _ h=>h) (Or.inl ⟨by rfl,?_⟩) hHeld ?_
 rotate_left
 · (intro w hSw;(try dsimp only at hSw);go_simp;try with_reducible rfl)
 simp only [Act.put,List.setIfInBounds_toArray,List.set_cons_zero,List.set_cons_succ]
 refine wpAnyH_take (i:=3) (oi:=⟨some 38,.load 28 (.tmp 2),28, "law.go:37",#[⟨2,.guard⟩],some (2,true)⟩) (v:=?_) rfl (by kernel_rfl) (by kernel_rfl) (by kernel_rfl) (fun _ _ _ h=>h) (Or.inl ⟨by rfl,?_⟩) hHeld ?_
 rotate_left
 · (intro w hSw;(try dsimp only at hSw);go_simp;try with_reducible rfl)
 simp only [Act.put,List.setIfInBounds_toArray,List.set_cons_zero,List.set_cons_succ]
 refine wpAnyH_take (i:=4) (oi:=⟨some 39,.move (.tmp 1),87, "law.go:37",#[⟨2,.guard⟩],some (2,true)⟩) (v:=?_) rfl (by kernel_rfl) (by kernel_rfl) (by kernel_rfl) (fun _ _ _ h=>h) (Or.inl ⟨by rfl,?_⟩) hHeld ?_
 rotate_left
 · (intro w hSw;(try dsimp only at hSw);go_simp;try with_reducible rfl)
 simp only [Act.put,List.setIfInBounds_toArray,List.set_cons_zero,List.set_cons_succ]
 refine wpAnyH_ready (rs:=[5]) (by kernel_rfl) (by simp) ?_
 refine AllReadyH.cons (o:=⟨some 40,.call ⟨.value (.tmp 39),#[.const (Value.int IntKind.i64 1),.const (Value.int IntKind.i64 1)],#[2,2]⟩,28, "law.go:37",#[⟨4,.data⟩,⟨2,.chain⟩,⟨2,.guard⟩],some (2,true)⟩) rfl (fun K1 hK1=>?_) AllReadyH.nil
 go_simp
 first
 | (go_at_call 38;(with_reducible refine (lawP 1 1 (by decide) (by decide) (by decide) (by decide) _).mono ?_);rintro e w_p ⟨s_p,A_p,n_p,c_p,B_p,m_p,d_p,t_p,E_p,i_p,e_p,F_p,j_p,f_p,rfl,p,hh⟩
    (try replace a:=a.below hh);(try replace XQ:=XQ.below hh);(try replace LM2:=LM2.below hh);(try replace EP:=EP.below hh);(try replace hp:=hp.below hh);replace hb:=bend hb hh;replace e2:=EachH.belowG e2 hh)
 | (go_at_call 32;(with_reducible refine (psame_p a.pr p.pr (by decide) (by decide) (by decide) (by decide) true wk13_at).mono ?_);rintro e w_z ⟨rfl,hh⟩
    (try replace a:=a.below hh);(try replace XQ:=XQ.below hh);(try replace LM2:=LM2.below hh);(try replace EP:=EP.below hh);(try replace hp:=hp.below hh);replace hb:=bend hb hh;replace e2:=EachH.belowG e2 hh;clear p)
 | (go_at_call 40;(with_reducible refine (rtext_q hp.hr.qw (by decide) (by decide)).mono ?_);rintro e w_z ⟨rfl,hh⟩
    rw [wk13_w];(try replace a:=a.below hh);(try replace XQ:=XQ.below hh);(try replace LM2:=LM2.below hh);(try replace EP:=EP.below hh);(try replace hp:=hp.below hh);replace hb:=bend hb hh;replace e2:=EachH.belowG e2 hh)
 | (go_at_call 40;(with_reducible refine (rtext_q hp.hr.qy (by decide) (by decide)).mono ?_);rintro e w_z ⟨rfl,hh⟩
    rw [wk13_y];(try replace a:=a.below hh);(try replace XQ:=XQ.below hh);(try replace LM2:=LM2.below hh);(try replace EP:=EP.below hh);(try replace hp:=hp.below hh);replace hb:=bend hb hh;replace e2:=EachH.belowG e2 hh)
 | (go_at_call 30;(with_reducible refine (cgood_any LM2 e2.hr hM2 (by decide) (by decide) true hG1).mono ?_);rintro e w_z ⟨rfl,hh⟩
    (try replace a:=a.below hh);(try replace XQ:=XQ.below hh);(try replace LM2:=LM2.below hh);(try replace EP:=EP.below hh);(try replace hp:=hp.below hh);replace hb:=bend hb hh;replace e2:=EachH.belowG e2 hh)
 refine hK1.out _ _ (by with_reducible exact ⟨XQ.c0,XQ.c1,XQ.c2,XQ.c3,XQ.c4,XQ.c5,EP.c3,EP.c4,EP.c5,EP.c6,EP.c7,EP.c8⟩) (fun hHeld=>?_)
 clear hK1 K1
 refine wpAnyH_ready (rs:=[6]) (by kernel_rfl) (by simp) ?_
 refine AllReadyH.cons (o:=⟨some 41,.call ⟨.value (.func 32),#[.tmp 38,.tmp 40],#[28,28]⟩,4, "law.go:37",#[⟨3,.data⟩,⟨5,.data⟩,⟨5,.chain⟩,⟨2,.guard⟩],some (2,true)⟩) rfl (fun K1 hK1=>?_) AllReadyH.nil
 go_simp
 first
 | (go_at_call 38;(with_reducible refine (lawP 1 1 (by decide) (by decide) (by decide) (by decide) _).mono ?_);rintro e w_p ⟨s_p,A_p,n_p,c_p,B_p,m_p,d_p,t_p,E_p,i_p,e_p,F_p,j_p,f_p,rfl,p,hh⟩
    (try replace a:=a.below hh);(try replace XQ:=XQ.below hh);(try replace LM2:=LM2.below hh);(try replace EP:=EP.below hh);(try replace hp:=hp.below hh);replace hb:=bend hb hh;replace e2:=EachH.belowG e2 hh)
 | (go_at_call 32;(with_reducible refine (psame_p a.pr p.pr (by decide) (by decide) (by decide) (by decide) true wk13_at).mono ?_);rintro e w_z ⟨rfl,hh⟩
    (try replace a:=a.below hh);(try replace XQ:=XQ.below hh);(try replace LM2:=LM2.below hh);(try replace EP:=EP.below hh);(try replace hp:=hp.below hh);replace hb:=bend hb hh;replace e2:=EachH.belowG e2 hh;clear p)
 | (go_at_call 40;(with_reducible refine (rtext_q hp.hr.qw (by decide) (by decide)).mono ?_);rintro e w_z ⟨rfl,hh⟩
    rw [wk13_w];(try replace a:=a.below hh);(try replace XQ:=XQ.below hh);(try replace LM2:=LM2.below hh);(try replace EP:=EP.below hh);(try replace hp:=hp.below hh);replace hb:=bend hb hh;replace e2:=EachH.belowG e2 hh)
 | (go_at_call 40;(with_reducible refine (rtext_q hp.hr.qy (by decide) (by decide)).mono ?_);rintro e w_z ⟨rfl,hh⟩
    rw [wk13_y];(try replace a:=a.below hh);(try replace XQ:=XQ.below hh);(try replace LM2:=LM2.below hh);(try replace EP:=EP.below hh);(try replace hp:=hp.below hh);replace hb:=bend hb hh;replace e2:=EachH.belowG e2 hh)
 | (go_at_call 30;(with_reducible refine (cgood_any LM2 e2.hr hM2 (by decide) (by decide) true hG1).mono ?_);rintro e w_z ⟨rfl,hh⟩
    (try replace a:=a.below hh);(try replace XQ:=XQ.below hh);(try replace LM2:=LM2.below hh);(try replace EP:=EP.below hh);(try replace hp:=hp.below hh);replace hb:=bend hb hh;replace e2:=EachH.belowG e2 hh)
 refine hK1.out _ _ (by with_reducible exact ⟨XQ.c0,XQ.c1,XQ.c2,XQ.c3,XQ.c4,XQ.c5,EP.c3,EP.c4,EP.c5,EP.c6,EP.c7,EP.c8⟩) (fun hHeld=>?_)
 clear hK1 K1
 refine wpAnyH_take (i:=7) (oi:=⟨some 42,.pick (.tmp 37) (.tmp 41) (.const (Value.bool false)),4, "law.go:37",#[⟨2,.data⟩,⟨6,.data⟩],none⟩) (v:=?_) rfl (by kernel_rfl) (by kernel_rfl) (by kernel_rfl) (fun _ _ _ h=>h) (Or.inl ⟨by rfl,?_⟩) hHeld ?_
 rotate_left
 · (intro w hSw;(try dsimp only at hSw);go_simp;try with_reducible rfl)
 simp only [Act.put,List.setIfInBounds_toArray,List.set_cons_zero,List.set_cons_succ]
 refine wpAnyH_take (i:=8) (oi:=⟨some 43,.move (.tmp 42),4, "law.go:37",#[⟨7,.data⟩,⟨6,.chain⟩],none⟩) (v:=?_) rfl (by kernel_rfl) (by kernel_rfl) (by kernel_rfl) (fun _ _ _ h=>h) (Or.inl ⟨by rfl,?_⟩) hHeld ?_
 rotate_left
 · (intro w hSw;(try dsimp only at hSw);go_simp;try with_reducible rfl)
 simp only [Act.put,List.setIfInBounds_toArray,List.set_cons_zero,List.set_cons_succ]
 refine wpAnyH_take (i:=9) (oi:=⟨some 44,.move (.tmp 5),38, "law.go:37",#[⟨8,.guard⟩],some (8,true)⟩) (v:=?_) rfl (by kernel_rfl) (by kernel_rfl) (by kernel_rfl) (fun _ _ _ h=>h) (Or.inl ⟨by rfl,?_⟩) hHeld ?_
 rotate_left
 · (intro w hSw;(try dsimp only at hSw);go_simp;try with_reducible rfl)
 simp only [Act.put,List.setIfInBounds_toArray,List.set_cons_zero,List.set_cons_succ]
 refine wpAnyH_take (i:=10) (oi:=⟨some 45,.binOp BinOp.eql 38 (.tmp 44) (.const (Value.int IntKind.i64 0)) 38,4, "law.go:37",#[⟨9,.data⟩,⟨8,.guard⟩],some (8,true)⟩) (v:=?_) rfl (by kernel_rfl) (by kernel_rfl) (by kernel_rfl) (fun _ _ _ h=>h) (Or.inl ⟨by rfl,?_⟩) hHeld ?_
 rotate_left
 · (intro w hSw;(try dsimp only at hSw);go_simp;try with_reducible rfl)
 simp only [Act.put,List.setIfInBounds_toArray,List.set_cons_zero,List.set_cons_succ]
 refine wpAnyH_take (i:=11) (oi:=⟨some 46,.pick (.tmp 43) (.tmp 45) (.const (Value.bool false)),4, "law.go:37",#[⟨8,.data⟩,⟨10,.data⟩],none⟩) (v:=?_) rfl (by kernel_rfl) (by kernel_rfl) (by kernel_rfl) (fun _ _ _ h=>h) (Or.inl ⟨by rfl,?_⟩) hHeld ?_
 rotate_left
 · (intro w hSw;(try dsimp only at hSw);go_simp;try with_reducible rfl)
 simp only [Act.put,List.setIfInBounds_toArray,List.set_cons_zero,List.set_cons_succ]
 refine wpAnyH_take (i:=12) (oi:=⟨some 47,.move (.tmp 46),4, "law.go:37",#[⟨11,.data⟩,⟨8,.chain⟩],none⟩) (v:=?_) rfl (by kernel_rfl) (by kernel_rfl) (by kernel_rfl) (fun _ _ _ h=>h) (Or.inl ⟨by rfl,?_⟩) hHeld ?_
 rotate_left
 · (intro w hSw;(try dsimp only at hSw);go_simp;try with_reducible rfl)
 simp only [Act.put,List.setIfInBounds_toArray,List.set_cons_zero,List.set_cons_succ]
 refine wpAnyH_take (i:=13) (oi:=⟨some 48,.move (.tmp 4),37, "law.go:37",#[⟨12,.guard⟩],some (12,true)⟩) (v:=?_) rfl (by kernel_rfl) (by kernel_rfl) (by kernel_rfl) (fun _ _ _ h=>h) (Or.inl ⟨by rfl,?_⟩) hHeld ?_
 rotate_left
 · (intro w hSw;(try dsimp only at hSw);go_simp;try with_reducible rfl)
 simp only [Act.put,List.setIfInBounds_toArray,List.set_cons_zero,List.set_cons_succ]
 refine wpAnyH_take (i:=14) (oi:=⟨some 49,.call ⟨.builtin Builtin.len,#[.tmp 48],#[37]⟩,3, "law.go:37",#[⟨13,.data⟩,⟨12,.guard⟩],some (12,true)⟩) (v:=?_) rfl (by kernel_rfl) (by kernel_rfl) (by kernel_rfl) (fun _ _ _ h=>h) (Or.inl ⟨by rfl,?_⟩) hHeld ?_
 rotate_left
 · (intro w hSw;(try dsimp only at hSw);go_simp;try with_reducible rfl)
 simp only [Act.put,List.setIfInBounds_toArray,List.set_cons_zero,List.set_cons_succ]
 refine wpAnyH_take (i:=15) (oi:=⟨some 50,.binOp BinOp.eql 3 (.tmp 49) (.const (Value.int IntKind.i64 3)) 3,4, "law.go:37",#[⟨14,.data⟩,⟨12,.guard⟩],some (12,true)⟩) (v:=?_) rfl (by kernel_rfl) (by kernel_rfl) (by kernel_rfl) (fun _ _ _ h=>h) (Or.inl ⟨by rfl,?_⟩) hHeld ?_
 rotate_left
 · (intro w hSw;(try dsimp only at hSw);go_simp;try with_reducible rfl)
 simp only [Act.put,List.setIfInBounds_toArray,List.set_cons_zero,List.set_cons_succ]
 refine wpAnyH_take (i:=16) (oi:=⟨some 51,.pick (.tmp 47) (.tmp 50) (.const (Value.bool false)),4, "law.go:37",#[⟨12,.data⟩,⟨15,.data⟩],none⟩) (v:=?_) rfl (by kernel_rfl) (by kernel_rfl) (by kernel_rfl) (fun _ _ _ h=>h) (Or.inl ⟨by rfl,?_⟩) hHeld ?_
 rotate_left
 · (intro w hSw;(try dsimp only at hSw);go_simp;try with_reducible rfl)
 simp only [Act.put,List.setIfInBounds_toArray,List.set_cons_zero,List.set_cons_succ]
 refine wpAnyH_take (i:=17) (oi:=⟨some 52,.move (.tmp 51),4, "law.go:37",#[⟨16,.data⟩,⟨12,.chain⟩],none⟩) (v:=?_) rfl (by kernel_rfl) (by kernel_rfl) (by kernel_rfl) (fun _ _ _ h=>h) (Or.inl ⟨by rfl,?_⟩) hHeld ?_
 rotate_left
 · (intro w hSw;(try dsimp only at hSw);go_simp;try with_reducible rfl)
 simp only [Act.put,List.setIfInBounds_toArray,List.set_cons_zero,List.set_cons_succ]
 refine wpAnyH_take (i:=18) (oi:=⟨some 53,.move (.tmp 4),37, "law.go:37",#[⟨17,.guard⟩],some (17,true)⟩) (v:=?_) rfl (by kernel_rfl) (by kernel_rfl) (by kernel_rfl) (fun _ _ _ h=>h) (Or.inl ⟨by rfl,?_⟩) hHeld ?_
 rotate_left
 · (intro w hSw;(try dsimp only at hSw);go_simp;try with_reducible rfl)
 simp only [Act.put,List.setIfInBounds_toArray,List.set_cons_zero,List.set_cons_succ]
 refine wpAnyH_take (i:=19) (oi:=⟨some 54,.indexAddr 37 (.tmp 53) (.const (Value.int IntKind.i64 1)),0, "law.go:37",#[⟨18,.data⟩,⟨17,.guard⟩],some (17,true)⟩) (v:=?_) rfl (by kernel_rfl) (by kernel_rfl) (by kernel_rfl) (fun _ _ _ h=>h) (Or.inl ⟨by rfl,?_⟩) hHeld ?_
 rotate_left
 · (intro w hSw;(try dsimp only at hSw);go_simp;try with_reducible rfl)
 simp only [Act.put,List.setIfInBounds_toArray,List.set_cons_zero,List.set_cons_succ]
 refine wpAnyH_take (i:=20) (oi:=⟨some 55,.fieldAddr 73 (.tmp 54) 2,0, "law.go:37",#[⟨19,.data⟩,⟨17,.guard⟩],some (17,true)⟩) (v:=?_) rfl (by kernel_rfl) (by kernel_rfl) (by kernel_rfl) (fun _ _ _ h=>h) (Or.inl ⟨by rfl,?_⟩) hHeld ?_
 rotate_left
 · (intro w hSw;(try dsimp only at hSw);go_simp;try with_reducible rfl)
 simp only [Act.put,List.setIfInBounds_toArray,List.set_cons_zero,List.set_cons_succ]
 refine wpAnyH_take (i:=21) (oi:=⟨some 56,.load 26 (.tmp 55),26, "law.go:37",#[⟨20,.data⟩,⟨17,.guard⟩],some (17,true)⟩) (v:=?_) rfl (by kernel_rfl) (by kernel_rfl) (by kernel_rfl) (fun _ _ _ h=>h) (Or.inl ⟨by rfl,?_⟩) hHeld ?_
 rotate_left
 · (intro w hSw;(try dsimp only at hSw);go_simp;try with_reducible rfl)
 simp only [Act.put,List.setIfInBounds_toArray,List.set_cons_zero,List.set_cons_succ]
 refine wpAnyH_ready (rs:=[22]) (by kernel_rfl) (by simp) ?_
 refine AllReadyH.cons (o:=⟨some 57,.call ⟨.value (.func 40),#[.tmp 56],#[26]⟩,9, "law.go:37",#[⟨21,.data⟩,⟨17,.chain⟩,⟨17,.guard⟩],some (17,true)⟩) rfl (fun K1 hK1=>?_) AllReadyH.nil
 go_simp
 first
 | (go_at_call 38;(with_reducible refine (lawP 1 1 (by decide) (by decide) (by decide) (by decide) _).mono ?_);rintro e w_p ⟨s_p,A_p,n_p,c_p,B_p,m_p,d_p,t_p,E_p,i_p,e_p,F_p,j_p,f_p,rfl,p,hh⟩
    (try replace a:=a.below hh);(try replace XQ:=XQ.below hh);(try replace LM2:=LM2.below hh);(try replace EP:=EP.below hh);(try replace hp:=hp.below hh);replace hb:=bend hb hh;replace e2:=EachH.belowG e2 hh)
 | (go_at_call 32;(with_reducible refine (psame_p a.pr p.pr (by decide) (by decide) (by decide) (by decide) true wk13_at).mono ?_);rintro e w_z ⟨rfl,hh⟩
    (try replace a:=a.below hh);(try replace XQ:=XQ.below hh);(try replace LM2:=LM2.below hh);(try replace EP:=EP.below hh);(try replace hp:=hp.below hh);replace hb:=bend hb hh;replace e2:=EachH.belowG e2 hh;clear p)
 | (go_at_call 40;(with_reducible refine (rtext_q hp.hr.qw (by decide) (by decide)).mono ?_);rintro e w_z ⟨rfl,hh⟩
    rw [wk13_w];(try replace a:=a.below hh);(try replace XQ:=XQ.below hh);(try replace LM2:=LM2.below hh);(try replace EP:=EP.below hh);(try replace hp:=hp.below hh);replace hb:=bend hb hh;replace e2:=EachH.belowG e2 hh)
 | (go_at_call 40;(with_reducible refine (rtext_q hp.hr.qy (by decide) (by decide)).mono ?_);rintro e w_z ⟨rfl,hh⟩
    rw [wk13_y];(try replace a:=a.below hh);(try replace XQ:=XQ.below hh);(try replace LM2:=LM2.below hh);(try replace EP:=EP.below hh);(try replace hp:=hp.below hh);replace hb:=bend hb hh;replace e2:=EachH.belowG e2 hh)
 | (go_at_call 30;(with_reducible refine (cgood_any LM2 e2.hr hM2 (by decide) (by decide) true hG1).mono ?_);rintro e w_z ⟨rfl,hh⟩
    (try replace a:=a.below hh);(try replace XQ:=XQ.below hh);(try replace LM2:=LM2.below hh);(try replace EP:=EP.below hh);(try replace hp:=hp.below hh);replace hb:=bend hb hh;replace e2:=EachH.belowG e2 hh)
 refine hK1.out _ _ (by with_reducible exact ⟨XQ.c0,XQ.c1,XQ.c2,XQ.c3,XQ.c4,XQ.c5,EP.c3,EP.c4,EP.c5,EP.c6,EP.c7,EP.c8⟩) (fun hHeld=>?_)
 clear hK1 K1
 refine wpAnyH_take (i:=23) (oi:=⟨some 58,.binOp BinOp.eql 9 (.tmp 57) (.const (Value.string {data:=#[50]})) 9,4, "law.go:37",#[⟨22,.data⟩,⟨17,.guard⟩],some (17,true)⟩) (v:=?_) rfl (by kernel_rfl) (by kernel_rfl) (by kernel_rfl) (fun _ _ _ h=>h) (Or.inl ⟨by rfl,?_⟩) hHeld ?_
 rotate_left
 · (intro w hSw;(try dsimp only at hSw);go_simp;try with_reducible rfl)
 simp only [Act.put,List.setIfInBounds_toArray,List.set_cons_zero,List.set_cons_succ]
 refine wpAnyH_take (i:=24) (oi:=⟨some 59,.pick (.tmp 52) (.tmp 58) (.const (Value.bool false)),4, "law.go:37",#[⟨17,.data⟩,⟨23,.data⟩],none⟩) (v:=?_) rfl (by kernel_rfl) (by kernel_rfl) (by kernel_rfl) (fun _ _ _ h=>h) (Or.inl ⟨by rfl,?_⟩) hHeld ?_
 rotate_left
 · (intro w hSw;(try dsimp only at hSw);go_simp;try with_reducible rfl)
 simp only [Act.put,List.setIfInBounds_toArray,List.set_cons_zero,List.set_cons_succ]
 refine wpAnyH_take (i:=25) (oi:=⟨some 60,.move (.tmp 59),4, "law.go:37",#[⟨24,.data⟩,⟨22,.chain⟩],none⟩) (v:=?_) rfl (by kernel_rfl) (by kernel_rfl) (by kernel_rfl) (fun _ _ _ h=>h) (Or.inl ⟨by rfl,?_⟩) hHeld ?_
 rotate_left
 · (intro w hSw;(try dsimp only at hSw);go_simp;try with_reducible rfl)
 simp only [Act.put,List.setIfInBounds_toArray,List.set_cons_zero,List.set_cons_succ]
 refine wpAnyH_take (i:=26) (oi:=⟨some 61,.move (.tmp 4),37, "law.go:37",#[⟨25,.guard⟩],some (25,true)⟩) (v:=?_) rfl (by kernel_rfl) (by kernel_rfl) (by kernel_rfl) (fun _ _ _ h=>h) (Or.inl ⟨by rfl,?_⟩) hHeld ?_
 rotate_left
 · (intro w hSw;(try dsimp only at hSw);go_simp;try with_reducible rfl)
 simp only [Act.put,List.setIfInBounds_toArray,List.set_cons_zero,List.set_cons_succ]
 refine wpAnyH_take (i:=27) (oi:=⟨some 62,.indexAddr 37 (.tmp 61) (.const (Value.int IntKind.i64 1)),0, "law.go:37",#[⟨26,.data⟩,⟨25,.guard⟩],some (25,true)⟩) (v:=?_) rfl (by kernel_rfl) (by kernel_rfl) (by kernel_rfl) (fun _ _ _ h=>h) (Or.inl ⟨by rfl,?_⟩) hHeld ?_
 rotate_left
 · (intro w hSw;(try dsimp only at hSw);go_simp;try with_reducible rfl)
 simp only [Act.put,List.setIfInBounds_toArray,List.set_cons_zero,List.set_cons_succ]
 refine wpAnyH_take (i:=28) (oi:=⟨some 63,.fieldAddr 73 (.tmp 62) 1,0, "law.go:37",#[⟨27,.data⟩,⟨25,.guard⟩],some (25,true)⟩) (v:=?_) rfl (by kernel_rfl) (by kernel_rfl) (by kernel_rfl) (fun _ _ _ h=>h) (Or.inl ⟨by rfl,?_⟩) hHeld ?_
 rotate_left
 · (intro w hSw;(try dsimp only at hSw);go_simp;try with_reducible rfl)
 simp only [Act.put,List.setIfInBounds_toArray,List.set_cons_zero,List.set_cons_succ]
 refine wpAnyH_take (i:=29) (oi:=⟨some 64,.load 26 (.tmp 63),26, "law.go:37",#[⟨28,.data⟩,⟨25,.guard⟩],some (25,true)⟩) (v:=?_) rfl (by kernel_rfl) (by kernel_rfl) (by kernel_rfl) (fun _ _ _ h=>h) (Or.inl ⟨by rfl,?_⟩) hHeld ?_
 rotate_left
 · (intro w hSw;(try dsimp only at hSw);go_simp;try with_reducible rfl)
 simp only [Act.put,List.setIfInBounds_toArray,List.set_cons_zero,List.set_cons_succ]
 refine wpAnyH_ready (rs:=[30]) (by kernel_rfl) (by simp) ?_
 refine AllReadyH.cons (o:=⟨some 65,.call ⟨.value (.func 40),#[.tmp 64],#[26]⟩,9, "law.go:37",#[⟨29,.data⟩,⟨25,.chain⟩,⟨25,.guard⟩],some (25,true)⟩) rfl (fun K1 hK1=>?_) AllReadyH.nil
 go_simp
 first
 | (go_at_call 38;(with_reducible refine (lawP 1 1 (by decide) (by decide) (by decide) (by decide) _).mono ?_);rintro e w_p ⟨s_p,A_p,n_p,c_p,B_p,m_p,d_p,t_p,E_p,i_p,e_p,F_p,j_p,f_p,rfl,p,hh⟩
    (try replace a:=a.below hh);(try replace XQ:=XQ.below hh);(try replace LM2:=LM2.below hh);(try replace EP:=EP.below hh);(try replace hp:=hp.below hh);replace hb:=bend hb hh;replace e2:=EachH.belowG e2 hh)
 | (go_at_call 32;(with_reducible refine (psame_p a.pr p.pr (by decide) (by decide) (by decide) (by decide) true wk13_at).mono ?_);rintro e w_z ⟨rfl,hh⟩
    (try replace a:=a.below hh);(try replace XQ:=XQ.below hh);(try replace LM2:=LM2.below hh);(try replace EP:=EP.below hh);(try replace hp:=hp.below hh);replace hb:=bend hb hh;replace e2:=EachH.belowG e2 hh;clear p)
 | (go_at_call 40;(with_reducible refine (rtext_q hp.hr.qw (by decide) (by decide)).mono ?_);rintro e w_z ⟨rfl,hh⟩
    rw [wk13_w];(try replace a:=a.below hh);(try replace XQ:=XQ.below hh);(try replace LM2:=LM2.below hh);(try replace EP:=EP.below hh);(try replace hp:=hp.below hh);replace hb:=bend hb hh;replace e2:=EachH.belowG e2 hh)
 | (go_at_call 40;(with_reducible refine (rtext_q hp.hr.qy (by decide) (by decide)).mono ?_);rintro e w_z ⟨rfl,hh⟩
    rw [wk13_y];(try replace a:=a.below hh);(try replace XQ:=XQ.below hh);(try replace LM2:=LM2.below hh);(try replace EP:=EP.below hh);(try replace hp:=hp.below hh);replace hb:=bend hb hh;replace e2:=EachH.belowG e2 hh)
 | (go_at_call 30;(with_reducible refine (cgood_any LM2 e2.hr hM2 (by decide) (by decide) true hG1).mono ?_);rintro e w_z ⟨rfl,hh⟩
    (try replace a:=a.below hh);(try replace XQ:=XQ.below hh);(try replace LM2:=LM2.below hh);(try replace EP:=EP.below hh);(try replace hp:=hp.below hh);replace hb:=bend hb hh;replace e2:=EachH.belowG e2 hh)
 refine hK1.out _ _ (by with_reducible exact ⟨XQ.c0,XQ.c1,XQ.c2,XQ.c3,XQ.c4,XQ.c5,EP.c3,EP.c4,EP.c5,EP.c6,EP.c7,EP.c8⟩) (fun hHeld=>?_)
 clear hK1 K1
 refine wpAnyH_take (i:=31) (oi:=⟨some 66,.binOp BinOp.eql 9 (.tmp 65) (.const (Value.string {data:=#[52]})) 9,4, "law.go:37",#[⟨30,.data⟩,⟨25,.guard⟩],some (25,true)⟩) (v:=?_) rfl (by kernel_rfl) (by kernel_rfl) (by kernel_rfl) (fun _ _ _ h=>h) (Or.inl ⟨by rfl,?_⟩) hHeld ?_
 rotate_left
 · (intro w hSw;(try dsimp only at hSw);go_simp;try with_reducible rfl)
 simp only [Act.put,List.setIfInBounds_toArray,List.set_cons_zero,List.set_cons_succ]
 refine wpAnyH_take (i:=32) (oi:=⟨some 67,.pick (.tmp 60) (.tmp 66) (.const (Value.bool false)),4, "law.go:37",#[⟨25,.data⟩,⟨31,.data⟩],none⟩) (v:=?_) rfl (by kernel_rfl) (by kernel_rfl) (by kernel_rfl) (fun _ _ _ h=>h) (Or.inl ⟨by rfl,?_⟩) hHeld ?_
 rotate_left
 · (intro w hSw;(try dsimp only at hSw);go_simp;try with_reducible rfl)
 simp only [Act.put,List.setIfInBounds_toArray,List.set_cons_zero,List.set_cons_succ]
 refine wpAnyH_take (i:=33) (oi:=⟨some 68,.move (.tmp 67),4, "law.go:37",#[⟨32,.data⟩,⟨30,.chain⟩],none⟩) (v:=?_) rfl (by kernel_rfl) (by kernel_rfl) (by kernel_rfl) (fun _ _ _ h=>h) (Or.inl ⟨by rfl,?_⟩) hHeld ?_
 rotate_left
 · (intro w hSw;(try dsimp only at hSw);go_simp;try with_reducible rfl)
 simp only [Act.put,List.setIfInBounds_toArray,List.set_cons_zero,List.set_cons_succ]
 refine wpAnyH_take (i:=34) (oi:=⟨some 69,.move (.tmp 7),38, "law.go:37",#[⟨33,.guard⟩],some (33,true)⟩) (v:=?_) rfl (by kernel_rfl) (by kernel_rfl) (by kernel_rfl) (fun _ _ _ h=>h) (Or.inl ⟨by rfl,?_⟩) hHeld ?_
 rotate_left
 · (intro w hSw;(try dsimp only at hSw);go_simp;try with_reducible rfl)
 simp only [Act.put,List.setIfInBounds_toArray,List.set_cons_zero,List.set_cons_succ]
 refine wpAnyH_take (i:=35) (oi:=⟨some 70,.binOp BinOp.eql 38 (.tmp 69) (.const (Value.int IntKind.i64 1)) 38,4, "law.go:37",#[⟨34,.data⟩,⟨33,.guard⟩],some (33,true)⟩) (v:=?_) rfl (by kernel_rfl) (by kernel_rfl) (by kernel_rfl) (fun _ _ _ h=>h) (Or.inl ⟨by rfl,?_⟩) hHeld ?_
 rotate_left
 · (intro w hSw;(try dsimp only at hSw);go_simp;try with_reducible rfl)
 simp only [Act.put,List.setIfInBounds_toArray,List.set_cons_zero,List.set_cons_succ]
 refine wpAnyH_take (i:=36) (oi:=⟨some 71,.pick (.tmp 68) (.tmp 70) (.const (Value.bool false)),4, "law.go:37",#[⟨33,.data⟩,⟨35,.data⟩],none⟩) (v:=?_) rfl (by kernel_rfl) (by kernel_rfl) (by kernel_rfl) (fun _ _ _ h=>h) (Or.inl ⟨by rfl,?_⟩) hHeld ?_
 rotate_left
 · (intro w hSw;(try dsimp only at hSw);go_simp;try with_reducible rfl)
 simp only [Act.put,List.setIfInBounds_toArray,List.set_cons_zero,List.set_cons_succ]
 refine wpAnyH_take (i:=37) (oi:=⟨some 72,.move (.tmp 71),4, "law.go:37",#[⟨36,.data⟩,⟨33,.chain⟩],none⟩) (v:=?_) rfl (by kernel_rfl) (by kernel_rfl) (by kernel_rfl) (fun _ _ _ h=>h) (Or.inl ⟨by rfl,?_⟩) hHeld ?_
 rotate_left
 · (intro w hSw;(try dsimp only at hSw);go_simp;try with_reducible rfl)
 simp only [Act.put,List.setIfInBounds_toArray,List.set_cons_zero,List.set_cons_succ]
 refine wpAnyH_take (i:=38) (oi:=⟨some 73,.move (.tmp 4),37, "law.go:37",#[⟨37,.guard⟩],some (37,true)⟩) (v:=?_) rfl (by kernel_rfl) (by kernel_rfl) (by kernel_rfl) (fun _ _ _ h=>h) (Or.inl ⟨by rfl,?_⟩) hHeld ?_
 rotate_left
 · (intro w hSw;(try dsimp only at hSw);go_simp;try with_reducible rfl)
 simp only [Act.put,List.setIfInBounds_toArray,List.set_cons_zero,List.set_cons_succ]
 refine wpAnyH_ready (rs:=[39]) (by kernel_rfl) (by simp) ?_
 refine AllReadyH.cons (o:=⟨some 74,.call ⟨.value (.func 30),#[.tmp 73],#[37]⟩,4, "law.go:37",#[⟨38,.data⟩,⟨37,.chain⟩,⟨37,.guard⟩],some (37,true)⟩) rfl (fun K1 hK1=>?_) AllReadyH.nil
 go_simp
 first
 | (go_at_call 38;(with_reducible refine (lawP 1 1 (by decide) (by decide) (by decide) (by decide) _).mono ?_);rintro e w_p ⟨s_p,A_p,n_p,c_p,B_p,m_p,d_p,t_p,E_p,i_p,e_p,F_p,j_p,f_p,rfl,p,hh⟩
    (try replace a:=a.below hh);(try replace XQ:=XQ.below hh);(try replace LM2:=LM2.below hh);(try replace EP:=EP.below hh);(try replace hp:=hp.below hh);replace hb:=bend hb hh;replace e2:=EachH.belowG e2 hh)
 | (go_at_call 32;(with_reducible refine (psame_p a.pr p.pr (by decide) (by decide) (by decide) (by decide) true wk13_at).mono ?_);rintro e w_z ⟨rfl,hh⟩
    (try replace a:=a.below hh);(try replace XQ:=XQ.below hh);(try replace LM2:=LM2.below hh);(try replace EP:=EP.below hh);(try replace hp:=hp.below hh);replace hb:=bend hb hh;replace e2:=EachH.belowG e2 hh;clear p)
 | (go_at_call 40;(with_reducible refine (rtext_q hp.hr.qw (by decide) (by decide)).mono ?_);rintro e w_z ⟨rfl,hh⟩
    rw [wk13_w];(try replace a:=a.below hh);(try replace XQ:=XQ.below hh);(try replace LM2:=LM2.below hh);(try replace EP:=EP.below hh);(try replace hp:=hp.below hh);replace hb:=bend hb hh;replace e2:=EachH.belowG e2 hh)
 | (go_at_call 40;(with_reducible refine (rtext_q hp.hr.qy (by decide) (by decide)).mono ?_);rintro e w_z ⟨rfl,hh⟩
    rw [wk13_y];(try replace a:=a.below hh);(try replace XQ:=XQ.below hh);(try replace LM2:=LM2.below hh);(try replace EP:=EP.below hh);(try replace hp:=hp.below hh);replace hb:=bend hb hh;replace e2:=EachH.belowG e2 hh)
 | (go_at_call 30;(with_reducible refine (cgood_any LM2 e2.hr hM2 (by decide) (by decide) true hG1).mono ?_);rintro e w_z ⟨rfl,hh⟩
    (try replace a:=a.below hh);(try replace XQ:=XQ.below hh);(try replace LM2:=LM2.below hh);(try replace EP:=EP.below hh);(try replace hp:=hp.below hh);replace hb:=bend hb hh;replace e2:=EachH.belowG e2 hh)
 refine hK1.out _ _ (by with_reducible exact ⟨XQ.c0,XQ.c1,XQ.c2,XQ.c3,XQ.c4,XQ.c5,EP.c3,EP.c4,EP.c5,EP.c6,EP.c7,EP.c8⟩) (fun hHeld=>?_)
 clear hK1 K1
 refine wpAnyH_take (i:=40) (oi:=⟨some 75,.pick (.tmp 72) (.tmp 74) (.const (Value.bool false)),4, "law.go:37",#[⟨37,.data⟩,⟨39,.data⟩],none⟩) (v:=?_) rfl (by kernel_rfl) (by kernel_rfl) (by kernel_rfl) (fun _ _ _ h=>h) (Or.inl ⟨by rfl,?_⟩) hHeld ?_
 rotate_left
 · (intro w hSw;(try dsimp only at hSw);go_simp;try with_reducible rfl)
 simp only [Act.put,List.setIfInBounds_toArray,List.set_cons_zero,List.set_cons_succ]
 refine wpAnyH_take (i:=41) (oi:=⟨some 0,.assign (.tmp 75),4, "law.go:37",#[⟨40,.data⟩,⟨39,.chain⟩,⟨0,.phase⟩,⟨1,.phase⟩,⟨2,.phase⟩,⟨3,.phase⟩,⟨4,.phase⟩,⟨5,.phase⟩,⟨6,.phase⟩,⟨7,.phase⟩,⟨8,.phase⟩,⟨9,.phase⟩,⟨10,.phase⟩,⟨11,.phase⟩,⟨12,.phase⟩,⟨13,.phase⟩,⟨14,.phase⟩,⟨15,.phase⟩,⟨16,.phase⟩,⟨17,.phase⟩,⟨18,.phase⟩,⟨19,.phase⟩,⟨20,.phase⟩,⟨21,.phase⟩,⟨22,.phase⟩,⟨23,.phase⟩,⟨24,.phase⟩,⟨25,.phase⟩,⟨26,.phase⟩,⟨27,.phase⟩,⟨28,.phase⟩,⟨29,.phase⟩,⟨30,.phase⟩,⟨31,.phase⟩,⟨32,.phase⟩,⟨33,.phase⟩,⟨34,.phase⟩,⟨35,.phase⟩,⟨36,.phase⟩,⟨37,.phase⟩,⟨38,.phase⟩,⟨39,.phase⟩,⟨40,.phase⟩],none⟩) (v:=?_) rfl (by kernel_rfl) (by kernel_rfl) (by kernel_rfl) (fun _ _ _ h=>h) (Or.inl ⟨by rfl,?_⟩) hHeld ?_
 rotate_left
 · (intro w hSw;(try dsimp only at hSw);go_simp;try with_reducible rfl)
 simp only [Act.put,List.setIfInBounds_toArray,List.set_cons_zero]
 refine wpAnyH_done (by kernel_rfl) ?_ _
 go_wp2_with fail
 go_ret;exact ⟨rfl,hb⟩
end
section
open Go Go.RowKit
attribute [local go_sem ↓] open_LVH open_STH open_LVJ open_STJ
theorem GivesPtE.more {x y:Rat} {k k1:Nat} {en:Ending} {w':World} (h:GivesPtE w x y k en w') (hk:k≤k1):GivesPtE w x y k1 en w':=by
 obtain ⟨s,A,n,c,B,m,d,t,E,i,e,F,j,f,h1,h2,h3⟩:=h
 exact ⟨s,A,n,c,B,m,d,t,E,i,e,F,j,f,h1,h2.more hk,h3⟩
theorem kRow_cap {k t n N:Nat} (hn:n≤N) {B:Nat} (hB:kRow k t N+(1+kRow k t N)≤B):kRow k t n+(1+kRow k t n)≤B:=by
 have:=kRow_le (k:=k) (t:=t) hn
 omega
theorem cat_any {A A1 A2:Option Addr} {n c n1 c1 n2 c2 k kt B:Nat} {s:Bool} {L:List HV} {V:List AH} {vt:Rat} (hL:SV w A (hvs L)) (hE:EachH HR w L V k) (hn:L.length=n) (q:QR w s A1 n1 c1 A2 n2 c2 vt kt) (hk:kRow k kt 3≤10000) (ht:kt≤1000) (h1:1≤k) (h2:1≤kt) (hG:GoodH V) (h0:0≤vt∧vt≤1) (hB:kRow k kt 3+(1+kRow k kt 3)≤B) :
 Calls Tryz.prog 21 #[.slice A n c,.agg #[.bool s,.slice A1 n1 c1,.slice A2 n2 c2]] w (GivesPtE w (bez vt V).px (bez vt V).py B):=by
 have hn4:n - 1≤3:=by have:=hG.1;rw [← hn,hE.1];omega
 have hk2:=Nat.le_trans (kRow_le (k:=k) (t:=kt) hn4) hk
 rcases cvsgn_nn h0.1 with e | e
 · exact (cat_p0 hL hE hn q hk2 ht h1 h2 hG h0.1 h0.2 e).mono fun _ _ h=>h.more (kRow_cap hn4 hB)
 · exact (cat_p1 hL hE hn q hk2 ht h1 h2 hG h0.1 h0.2 e).mono fun _ _ h=>h.more (kRow_cap hn4 hB)
theorem fair13_t {A:Option Addr} {n c:Nat} {L:List HV} (hL:SV w A (hvs L)) (hn:L.length=n) (hm:n≤maxLen) (h:(∀ p ∈ L,p.small 4)∧n≤6):Calls Tryz.prog 17 #[.slice A n c] w fun e w'=>e=.returned (.bool true)∧Below w.heap.size w w':=fair13 hL hn hm true ⟨fun _=>h,fun _=>rfl⟩
theorem fair13_f {A:Option Addr} {n c:Nat} {L:List HV} (hL:SV w A (hvs L)) (hn:L.length=n) (hm:n≤maxLen) (h:¬ ((∀ p ∈ L,p.small 4)∧n≤6)):Calls Tryz.prog 17 #[.slice A n c] w fun e w'=>e=.returned (.bool false)∧Below w.heap.size w w':=fair13 hL hn hm false ⟨fun e=>by (cases e),fun e=>absurd e h⟩
theorem rgood13_t {A:Option Addr} {n c k:Nat} {L:List HV} {V:List AH} (hL:SV w A (hvs L)) (hE:EachH RH w L V k) (hn:L.length=n) (hm:n≤1000) (h:GoodH V):Calls Tryz.prog 22 #[.slice A n c] w fun e w'=>e=.returned (.bool true)∧Below w.heap.size w w':=rgood13 hL hE hn hm true ⟨fun _=>h,fun _=>rfl⟩
theorem rgood13_f {A:Option Addr} {n c k:Nat} {L:List HV} {V:List AH} (hL:SV w A (hvs L)) (hE:EachH RH w L V k) (hn:L.length=n) (hm:n≤1000) (h:¬ GoodH V):Calls Tryz.prog 22 #[.slice A n c] w fun e w'=>e=.returned (.bool false)∧Below w.heap.size w w':=rgood13 hL hE hn hm false ⟨fun e=>by (cases e),fun e=>absurd e h⟩
theorem zero_q:Rat.divInt 0 1=0:=by decide +kernel
theorem div_255 (k:Nat) (h:k≤255):0≤Rat.divInt (k:Int) 255∧Rat.divInt (k:Int) 255≤1:=by
 have key:∀ i:Fin 256,0≤Rat.divInt (i.val:Int) 255∧Rat.divInt (i.val:Int) 255≤1:=by decide +kernel
 exact key ⟨k,by omega⟩
theorem div_255r (k:Nat) (h:k≤255):Rat.divInt (255 - (k:Int)) 255=1 - Rat.divInt (k:Int) 255:=by
 have key:∀ i:Fin 256,Rat.divInt (255 - (i.val:Int)) 255=1 - Rat.divInt (i.val:Int) 255:=by decide +kernel
 exact key ⟨k,by omega⟩
theorem good_rev {V:List AH} (h:GoodH V):GoodH V.reverse:=⟨by rw [List.length_reverse];exact h.1,fun u hu=>h.2 u (List.mem_reverse.1 hu)⟩
theorem ends_f {A:Option Addr} {n c k8:Nat} {L:List HV} (hL:SV w A (hvs L)) (hn:L.length=n) (hm:n≤maxLen) (hf:¬ ((∀ p ∈ L,p.small 4)∧n≤6)) :
 Calls Tryz.prog 5 #[.slice A n c,.int .u8 (k8:Int)] w fun e w'=>e=.returned (.bool true)∧Below w.heap.size w w':=by
 have HF:=Lib.hid hf;clear hf
 have hb:Below w.heap.size w w:=Below.refl _ _
 have HN:=Lib.hid hn;clear hn
 go_enter Tryz.func5,Tryz.ntmps5
 go_wp2_with (first
  | (go_at_call 17;(with_reducible refine (fair13_f hL HN.out hm HF.out).mono ?_);rintro e w_z ⟨rfl,hh⟩
     replace hb:=bend hb hh)
  | (go_at_call 10;(with_reducible refine (wakes13_any _).mono ?_);rintro e w_z ⟨rfl,hh⟩
     replace hb:=bend hb hh))
 (try rw [Exit.noGoto_ret])
 go_ret;exact ⟨rfl,hb⟩
theorem ends_g {A:Option Addr} {n c k8:Nat} {L:List HV} {V:List AH} (hL:SV w A (hvs L)) (hn:L.length=n) (hE:EachH HR w L V 4) (hs:(∀ p ∈ L,p.small 4)∧n≤6) (hg:¬ GoodH V) :
 Calls Tryz.prog 5 #[.slice A n c,.int .u8 (k8:Int)] w fun e w'=>e=.returned (.bool true)∧Below w.heap.size w w':=by
 have HG:=Lib.hid hg;clear hg;have HF:=Lib.hid hs
 have hm:n≤maxLen:=by unfold maxLen;omega
 have hn9:n≤1000:=by omega
 have HVn:Hid (V.length=n):=hE.1.symm.trans hn
 clear hs
 have hb:Below w.heap.size w w:=Below.refl _ _
 have HN:=Lib.hid hn;clear hn
 go_enter Tryz.func5,Tryz.ntmps5
 go_wp2_with (first
  | (go_at_call 17;(with_reducible refine (fair13_t hL HN.out hm HF.out).mono ?_);rintro e w_z ⟨rfl,hh⟩
     (try replace hL:=hL.below hh);replace hb:=bend hb hh;replace hE:=EachH.belowR hE hh)
  | (go_at_call 19;(with_reducible refine (rins13 hL hE HN.out hn9 (by decide) (by decide)).mono ?_);rintro e w_i ⟨v1,M1,rfl,l1,e1,hh⟩
     (try replace hL:=hL.below hh);replace hb:=bend hb hh;replace hE:=EachH.belowR hE hh
     obtain ⟨A_x,c_x,rfl,_,_⟩:=l1.form
     have hM1:M1.length=n:=e1.1.trans HVn.out
     rw [hM1] at l1 ⊢
     have LM1:=l1.sv)
  | (go_at_call 22;(with_reducible refine (rgood13_f LM1 e1 hM1 hn9 HG.out).mono ?_);rintro e w_z ⟨rfl,hh⟩
     (try replace hL:=hL.below hh);replace hb:=bend hb hh;replace hE:=EachH.belowR hE hh;clear e1 l1 LM1)
  | (go_at_call 10;(with_reducible refine (wakes13_any _).mono ?_);rintro e w_z ⟨rfl,hh⟩
     replace hb:=bend hb hh))
 (try rw [Exit.noGoto_ret])
 go_ret;exact ⟨rfl,hb⟩
theorem ends_p {A:Option Addr} {n c k8:Nat} {L:List HV} {V:List AH} (hL:SV w A (hvs L)) (hn:L.length=n) (hE:EachH HR w L V 4) (hs:(∀ p ∈ L,p.small 4)∧n≤6) (hk8:k8≤255) (hg:GoodH V) :
 Calls Tryz.prog 5 #[.slice A n c,.int .u8 (k8:Int)] w fun e w'=>e=.returned (.bool true)∧Below w.heap.size w w':=by
 have HG:=Lib.hid hg;have HGV:=Lib.hid hg
 have hn24:2≤n∧n≤4:=by have:=hg.1;rw [← hE.1,hn] at this;exact this
 clear hg;have HF:=Lib.hid hs
 have hm:n≤maxLen:=by unfold maxLen;omega
 have hn9:n≤1000:=by omega
 have HVn:Hid (V.length=n):=hE.1.symm.trans hn
 clear hs
 have hb:Below w.heap.size w w:=Below.refl _ _
 have HN:=Lib.hid hn;clear hn
 go_enter Tryz.func5,Tryz.ntmps5
 go_wp2_with (first
  | (go_at_call 17;(with_reducible refine (fair13_t hL HN.out hm HF.out).mono ?_);rintro e w_z ⟨rfl,hh⟩
     (try replace hL:=hL.below hh);replace hb:=bend hb hh;replace hE:=EachH.belowR hE hh)
  | (go_at_call 19;(with_reducible refine (rins13 hL hE HN.out hn9 (by decide) (by decide)).mono ?_);rintro e w_i ⟨v1,M1,rfl,l1,e1,hh⟩
     (try replace hL:=hL.below hh);replace hb:=bend hb hh;replace hE:=EachH.belowR hE hh
     obtain ⟨A_x,c_x,rfl,_,_⟩:=l1.form
     have hM1:M1.length=n:=e1.1.trans HVn.out
     rw [hM1] at l1 ⊢
     have LM1:=l1.sv)
  | (go_at_call 22;(with_reducible refine (rgood13_t LM1 e1 hM1 hn9 HG.out).mono ?_);rintro e w_z ⟨rfl,hh⟩
     (try replace hL:=hL.below hh);replace hb:=bend hb hh;replace hE:=EachH.belowR hE hh;clear e1 l1 LM1))
 have hwr2:IntKind.i64.wrap ((n:Int) - 1)=(n:Int) - 1:=IntWalk.i64_in _ (by omega)
 generalize w_z=W at *
 have HL9:=Lib.hid hL;have E9:=Lib.hid hE;have HB9:=Lib.hid hb;clear hL hE hb
 go_loopg [6,7] n (fun gk out ix wr=>∃ (M:List HV) (m:Nat),Hid (gk+m=n)∧ix=.int .i64 (m:Int)∧LnH 73 W.heap.size wr out M∧Hid (EachH HR wr M (V.reverse.take m) 4)∧Below W.heap.size W wr)
 case atStart=>exact ⟨[],0,Nat.add_zero _,rfl,LnH.nil _ _ _,⟨rfl,fun i p u h=>by cases h⟩,Below.refl _ _⟩
 case round =>
  obtain ⟨M,m,HGK,rfl,LT,HQ,hB⟩:=hrel
  by_cases hmn:m < n
  · obtain ⟨P,u,hP1,hu1,p0⟩:=(EachH.belowR E9.out hB).at_ (i:=n - 1 - m) (by rw [HN.out];omega)
    obtain ⟨g0,o0,hix0,EP0,_⟩:=HL9.out.ht hP1
    have hixa:∀ w',(Instr.indexAt 37 (.slice A n c) (.int .i64 ((n:Int) - 1 - (m:Int)))).run Tryz.prog w'=.ok (.pointer (some ⟨g0,o0,none⟩)) w':=fun w'=>by
     have:=hix0 n c w' (by omega)
     rwa [show ((n - 1 - m:Nat):Int)=(n:Int) - 1 - (m:Int) by omega] at this
    have hlt:(m:Int) < (n:Int):=by omega
    have hwr:IntKind.i64.wrap ((m:Int)+1)=(m:Int)+1:=IntWalk.i64_in _ (by omega)
    have hwr3:IntKind.i64.wrap ((n:Int) - 1 - (m:Int))=(n:Int) - 1 - (m:Int):=IntWalk.i64_in _ (by omega)
    have HU:Hid (V.reverse[m]?=some u):=(List.getElem?_reverse (by rw [HVn.out];exact hmn)).trans (by rw [HVn.out];exact hu1)
    have hMl:M.length≤1000000:=by have:=HQ.out.1;rw [List.length_take] at this;omega
    have HMN:=Lib.hid hmn
    have epl:=(EP0.below hB).ldH
    have hal:Below wr.heap.size wr (wr.alloc (Obj.cells #[Value.bool P.x.s,Value.slice P.x.A P.x.n P.x.c,Value.slice P.x.B P.x.m P.x.d,Value.bool P.y.s,Value.slice P.y.A P.y.n P.y.c,Value.slice P.y.B P.y.m P.y.d,Value.bool P.w.s,Value.slice P.w.A P.w.n P.w.c,Value.slice P.w.B P.w.m P.w.d] 73)):=(Below.refl _ _).alloc (Nat.le_refl _) _
    clear hP1 hu1 hix0 hmn EP0
    go_wp2_with (at_builtin;refine wpList_push2H Tryz.underlying37 info_hom rfl (.tmp 37) (.tmp 45) rfl (p:=P) (k0:=1) (b:=wr.heap.size) rfl rfl (LT.below hal) (Nat.le_trans hB.size hal.size) hMl (heap_alloc_new wr _) ?_;intro v3 w3 hn3 hg3 ho3)
    have hE3:EachH HR (wr.alloc (Obj.cells #[Value.bool P.x.s,Value.slice P.x.A P.x.n P.x.c,Value.slice P.x.B P.x.m P.x.d,Value.bool P.y.s,Value.slice P.y.A P.y.n P.y.c,Value.slice P.y.B P.y.m P.y.d,Value.bool P.w.s,Value.slice P.w.A P.w.n P.w.c,Value.slice P.w.B P.w.m P.w.d] 73)) M (V.reverse.take m) 4:=EachH.belowR HQ.out hal
    have hp3:HR (wr.alloc (Obj.cells #[Value.bool P.x.s,Value.slice P.x.A P.x.n P.x.c,Value.slice P.x.B P.x.m P.x.d,Value.bool P.y.s,Value.slice P.y.A P.y.n P.y.c,Value.slice P.y.B P.y.m P.y.d,Value.bool P.w.s,Value.slice P.w.A P.w.n P.w.c,Value.slice P.w.B P.w.m P.w.d] 73)) P u 4:=p0.below hal
    have hB9:=LnH.under (T:=73) (base:=W.heap.size) (LT.below hal) hg3 (w0:=W) (bend hB hal) (Nat.le_refl _)
    have hE4:=takeH HU.out (EachH.push hE3 (fun _ _ h=>(LT.below hal).hr hg3 h) ((LT.below hal).hr hg3 hp3))
    clear hE3 hp3 p0 epl
    go_roundg (gk - 1)
    case measure=>have:=HGK.out;have:=HMN.out;omega
    case rel=>exact ⟨M ++ [P],m+1,by have:=HGK.out;have:=HMN.out;show _=_;omega,by go_num,hn3,Lib.hid hE4,hB9⟩
  · have hlt:¬ (m:Int) < (n:Int):=by omega
    have eB:EachH HR wr M V.reverse 4:=by
     have h:=HQ.out
     rwa [List.take_of_length_le (by rw [List.length_reverse,HVn.out];omega)] at h
    have hMB:M.length=n:=by rw [eB.1,List.length_reverse,HVn.out]
    obtain ⟨A_b,c_b,rfl,_,_⟩:=LT.form
    rw [hMB] at LT;have LB:=LT.sv;have hL:=HL9.out.below hB;have hE:=EachH.belowR E9.out hB;have hb:=bend HB9.out hB
    obtain ⟨P0,y0,hP0,hy0,p0⟩:=hE.at_ (i:=0) (by rw [HN.out];omega)
    obtain ⟨P9,y9,hP9,hy9,p9⟩:=hE.at_ (i:=n - 1) (by rw [HN.out];omega)
    obtain rfl:bez 0 V=y0:=by have h5:=bez_0 HGV.out.1;rw [h5] at hy0;exact Option.some.inj hy0
    obtain rfl:bez 1 V=y9:=by have h5:=bez_1 HGV.out.1;rw [HVn.out] at h5;rw [h5] at hy9;exact Option.some.inj hy9
    have hw0:(bez 0 V).w ≠ 0:=by have:=HGV.out.2 _ (List.mem_of_getElem? hy0);grind
    have hw9:(bez 1 V).w ≠ 0:=by have:=HGV.out.2 _ (List.mem_of_getElem? hy9);grind
    obtain ⟨g0,o0,hix0,E0,_⟩:=hL.ht hP0
    obtain ⟨g9,o9,hix9,E9a,_⟩:=hL.ht hP9
    have hixa:∀ w',(Instr.indexAt 37 (.slice A n c) (.int .i64 0)).run Tryz.prog w'=.ok (.pointer (some ⟨g0,o0,none⟩)) w':=fun w'=>hix0 n c w' (by omega)
    have hixb:∀ w',(Instr.indexAt 37 (.slice A n c) (.int .i64 ((n:Int) - 1))).run Tryz.prog w'=.ok (.pointer (some ⟨g9,o9,none⟩)) w':=fun w'=>by
     have:=hix9 n c w' (by omega)
     rwa [show ((n - 1:Nat):Int)=(n:Int) - 1 by omega] at this
    have HW0:=Lib.hid hw0;have HW9:=Lib.hid hw9
    have hwr5:IntKind.i64.wrap (255 - (k8:Int))=255 - (k8:Int):=IntWalk.i64_in _ (by omega)
    have HC:=Lib.hid (div_255 k8 hk8)
    have HD:Hid (0≤Rat.divInt (255 - (k8:Int)) 255∧Rat.divInt (255 - (k8:Int)) 255≤1):=by have h5:=div_255 (255 - k8) (by omega);rwa [show ((255 - k8:Nat):Int)=255 - (k8:Int) by omega] at h5
    have HT0:Hid (0≤Rat.divInt 0 1∧Rat.divInt 0 1≤1):=by show _∧_;decide +kernel
    have HT1:Hid (0≤Rat.divInt 1 1∧Rat.divInt 1 1≤1):=by show _∧_;decide +kernel
    have HBk:=Lib.hid hMB
    have HS1:Hid (decide ((bez (Rat.divInt 0 1) V).px=(bez 0 V).px∧(bez (Rat.divInt 0 1) V).py=(bez 0 V).py)=true):=by show _=_;rw [zero_q];simp
    have HS2:Hid (decide ((bez (Rat.divInt 1 1) V).px=(bez 1 V).px∧(bez (Rat.divInt 1 1) V).py=(bez 1 V).py)=true):=by show _=_;rw [one_q];simp
    have HS3:Hid (decide ((bez (Rat.divInt (k8:Int) 255) V).px=(bez (Rat.divInt (255 - (k8:Int)) 255) V.reverse).px∧(bez (Rat.divInt (k8:Int) 255) V).py=(bez (Rat.divInt (255 - (k8:Int)) 255) V.reverse).py)=true):=by show _=_;rw [div_255r k8 hk8,bez_turn HGV.out.1];simp
    have HGR:=Lib.hid (good_rev HGV.out)
    have h255:(255:Int) < 9223372036854775808:=by decide
    clear hP0 hP9 hy0 hy9 hix0 hix9 hw0 hw9 hMB LT hB E9 HL9 HB9 HQ hmn
    go_upto_region 10 with (first
     | (go_at_call 31;(with_reducible refine (rof_q 0 1 (by decide) (by decide) (by decide) (by decide) (by decide) _).mono ?_);rintro e w_h ⟨s_h,A_h,n_h,c_h,B_h,m_h,d_h,rfl,h,hh⟩
        (try replace hL:=hL.below hh);(try replace LB:=LB.below hh);(try replace p0:=p0.below hh);(try replace p9:=p9.below hh);(try replace E0:=E0.below hh);(try replace E9a:=E9a.below hh);replace hb:=bend hb hh;replace hE:=EachH.belowR hE hh;replace eB:=EachH.belowR eB hh)
     | (go_at_call 21;(with_reducible refine (cat_any hL hE HN.out h.qr (by decide) (by decide) (by decide) (by decide) HGV.out HT0.out (by decide) (B:=300)).mono ?_);rintro e w_a ⟨s_a,A_a,n_a,c_a,B_a,m_a,d_a,t_a,E_a,i_a,e_a,F_a,j_a,f_a,rfl,a,hh⟩
        (try replace hL:=hL.below hh);(try replace LB:=LB.below hh);(try replace p0:=p0.below hh);(try replace p9:=p9.below hh);(try replace E0:=E0.below hh);(try replace E9a:=E9a.below hh);replace hb:=bend hb hh;replace hE:=EachH.belowR hE hh;replace eB:=EachH.belowR eB hh))
    clear h
    have XA:=B6.new' w_a (Value.bool s_a) (Value.slice A_a n_a c_a) (Value.slice B_a m_a d_a) (Value.bool t_a) (Value.slice E_a i_a e_a) (Value.slice F_a j_a f_a) w_a.heap.size rfl
    have hh:Below w_a.heap.size w_a (w_a.alloc (Obj.cells #[Value.bool s_a,Value.slice A_a n_a c_a,Value.slice B_a m_a d_a,Value.bool t_a,Value.slice E_a i_a e_a,Value.slice F_a j_a f_a] 28)):=(Below.refl w_a.heap.size w_a).alloc (Nat.le_refl _) _
    generalize (w_a.alloc (Obj.cells #[Value.bool s_a,Value.slice A_a n_a c_a,Value.slice B_a m_a d_a,Value.bool t_a,Value.slice E_a i_a e_a,Value.slice F_a j_a f_a] 28))=W1 at *
    replace hL:=hL.below hh;replace LB:=LB.below hh;replace p0:=p0.below hh;replace p9:=p9.below hh;replace E0:=E0.below hh;replace E9a:=E9a.below hh;replace a:=a.below hh;replace hE:=EachH.belowR hE hh;replace eB:=EachH.belowR eB hh;replace hb:=bend hb hh;clear hh
    go_upto_region 11 with (first
     | (go_at_call 31;(with_reducible refine (rof_q 1 1 (by decide) (by decide) (by decide) (by decide) (by decide) _).mono ?_);rintro e w_h ⟨s_h,A_h,n_h,c_h,B_h,m_h,d_h,rfl,h,hh⟩
        (try replace hL:=hL.below hh);(try replace LB:=LB.below hh);(try replace p0:=p0.below hh);(try replace p9:=p9.below hh);(try replace E0:=E0.below hh);(try replace E9a:=E9a.below hh);(try replace a:=a.below hh);(try replace XA:=XA.below hh);replace hb:=bend hb hh;replace hE:=EachH.belowR hE hh;replace eB:=EachH.belowR eB hh)
     | (go_at_call 21;(with_reducible refine (cat_any hL hE HN.out h.qr (by decide) (by decide) (by decide) (by decide) HGV.out HT1.out (by decide) (B:=300)).mono ?_);rintro e w_b ⟨s_b,A_b,n_b,c_b,B_b,m_b,d_b,t_b,E_b,i_b,e_b,F_b,j_b,f_b,rfl,b,hh⟩
        (try replace hL:=hL.below hh);(try replace LB:=LB.below hh);(try replace p0:=p0.below hh);(try replace p9:=p9.below hh);(try replace E0:=E0.below hh);(try replace E9a:=E9a.below hh);(try replace a:=a.below hh);(try replace XA:=XA.below hh);replace hb:=bend hb hh;replace hE:=EachH.belowR hE hh;replace eB:=EachH.belowR eB hh))
    clear h
    have XB:=B6.new' w_b (Value.bool s_b) (Value.slice A_b n_b c_b) (Value.slice B_b m_b d_b) (Value.bool t_b) (Value.slice E_b i_b e_b) (Value.slice F_b j_b f_b) w_b.heap.size rfl
    have hh:Below w_b.heap.size w_b (w_b.alloc (Obj.cells #[Value.bool s_b,Value.slice A_b n_b c_b,Value.slice B_b m_b d_b,Value.bool t_b,Value.slice E_b i_b e_b,Value.slice F_b j_b f_b] 28)):=(Below.refl w_b.heap.size w_b).alloc (Nat.le_refl _) _
    generalize (w_b.alloc (Obj.cells #[Value.bool s_b,Value.slice A_b n_b c_b,Value.slice B_b m_b d_b,Value.bool t_b,Value.slice E_b i_b e_b,Value.slice F_b j_b f_b] 28))=W2 at *
    replace hL:=hL.below hh;replace LB:=LB.below hh;replace p0:=p0.below hh;replace p9:=p9.below hh;replace E0:=E0.below hh;replace E9a:=E9a.below hh;replace a:=a.below hh;replace XA:=XA.below hh;replace b:=b.below hh;replace hE:=EachH.belowR hE hh;replace eB:=EachH.belowR eB hh;replace hb:=bend hb hh;clear hh;have epl:=E0.ldH
    go_upto_region 12 with (first
     | (go_at_call 28;(with_reducible refine (cpoint_p p0 (by decide) (by decide) HW0.out).mono ?_);rintro e w_x ⟨s_x,A_x,n_x,c_x,B_x,m_x,d_x,t_x,E_x,i_x,e_x,F_x,j_x,f_x,rfl,x,hh⟩
        (try replace hL:=hL.below hh);(try replace LB:=LB.below hh);(try replace p0:=p0.below hh);(try replace p9:=p9.below hh);(try replace E0:=E0.below hh);(try replace E9a:=E9a.below hh);(try replace a:=a.below hh);(try replace XA:=XA.below hh);(try replace b:=b.below hh);(try replace XB:=XB.below hh);replace hb:=bend hb hh;replace hE:=EachH.belowR hE hh;replace eB:=EachH.belowR eB hh))
    have XX:=B6.new' w_x (Value.bool s_x) (Value.slice A_x n_x c_x) (Value.slice B_x m_x d_x) (Value.bool t_x) (Value.slice E_x i_x e_x) (Value.slice F_x j_x f_x) w_x.heap.size rfl
    have hh:Below w_x.heap.size w_x (w_x.alloc (Obj.cells #[Value.bool s_x,Value.slice A_x n_x c_x,Value.slice B_x m_x d_x,Value.bool t_x,Value.slice E_x i_x e_x,Value.slice F_x j_x f_x] 28)):=(Below.refl w_x.heap.size w_x).alloc (Nat.le_refl _) _
    generalize (w_x.alloc (Obj.cells #[Value.bool s_x,Value.slice A_x n_x c_x,Value.slice B_x m_x d_x,Value.bool t_x,Value.slice E_x i_x e_x,Value.slice F_x j_x f_x] 28))=W3 at *
    replace hL:=hL.below hh;replace LB:=LB.below hh;replace p0:=p0.below hh;replace p9:=p9.below hh;replace E0:=E0.below hh;replace E9a:=E9a.below hh;replace a:=a.below hh;replace XA:=XA.below hh;replace b:=b.below hh;replace XB:=XB.below hh;replace x:=x.below hh;replace hE:=EachH.belowR hE hh;replace eB:=EachH.belowR eB hh;replace hb:=bend hb hh;clear hh;clear epl;have epl:=E9a.ldH
    go_upto_region 13 with (first
     | (go_at_call 28;(with_reducible refine (cpoint_p p9 (by decide) (by decide) HW9.out).mono ?_);rintro e w_y ⟨s_y,A_y,n_y,c_y,B_y,m_y,d_y,t_y,E_y,i_y,e_y,F_y,j_y,f_y,rfl,y,hh⟩
        (try replace hL:=hL.below hh);(try replace LB:=LB.below hh);(try replace p0:=p0.below hh);(try replace p9:=p9.below hh);(try replace E0:=E0.below hh);(try replace E9a:=E9a.below hh);(try replace a:=a.below hh);(try replace XA:=XA.below hh);(try replace b:=b.below hh);(try replace XB:=XB.below hh);(try replace x:=x.below hh);(try replace XX:=XX.below hh);replace hb:=bend hb hh;replace hE:=EachH.belowR hE hh;replace eB:=EachH.belowR eB hh))
    have XY:=B6.new' w_y (Value.bool s_y) (Value.slice A_y n_y c_y) (Value.slice B_y m_y d_y) (Value.bool t_y) (Value.slice E_y i_y e_y) (Value.slice F_y j_y f_y) w_y.heap.size rfl
    have hh:Below w_y.heap.size w_y (w_y.alloc (Obj.cells #[Value.bool s_y,Value.slice A_y n_y c_y,Value.slice B_y m_y d_y,Value.bool t_y,Value.slice E_y i_y e_y,Value.slice F_y j_y f_y] 28)):=(Below.refl w_y.heap.size w_y).alloc (Nat.le_refl _) _
    generalize (w_y.alloc (Obj.cells #[Value.bool s_y,Value.slice A_y n_y c_y,Value.slice B_y m_y d_y,Value.bool t_y,Value.slice E_y i_y e_y,Value.slice F_y j_y f_y] 28))=W4 at *
    replace hL:=hL.below hh;replace LB:=LB.below hh;replace p0:=p0.below hh;replace p9:=p9.below hh;replace E0:=E0.below hh;replace E9a:=E9a.below hh;replace a:=a.below hh;replace XA:=XA.below hh;replace b:=b.below hh;replace XB:=XB.below hh;replace x:=x.below hh;replace XX:=XX.below hh;replace y:=y.below hh;replace hE:=EachH.belowR hE hh;replace eB:=EachH.belowR eB hh;replace hb:=bend hb hh;clear hh;clear epl
    go_upto_region 14 with (first
     | (go_at_call 31;(with_reducible refine (rof_q (k8:Int) 255 (by omega) (by omega) (by decide) (by decide) (by decide) _).mono ?_);rintro e w_h ⟨s_h,A_h,n_h,c_h,B_h,m_h,d_h,rfl,h,hh⟩
        (try replace hL:=hL.below hh);(try replace LB:=LB.below hh);(try replace p0:=p0.below hh);(try replace p9:=p9.below hh);(try replace E0:=E0.below hh);(try replace E9a:=E9a.below hh);(try replace a:=a.below hh);(try replace XA:=XA.below hh);(try replace b:=b.below hh);(try replace XB:=XB.below hh);(try replace x:=x.below hh);(try replace XX:=XX.below hh);(try replace y:=y.below hh);(try replace XY:=XY.below hh);replace hb:=bend hb hh;replace hE:=EachH.belowR hE hh;replace eB:=EachH.belowR eB hh)
     | (go_at_call 21;(with_reducible refine (cat_any hL hE HN.out h.qr (by decide) (by decide) (by decide) (by decide) HGV.out HC.out (by decide) (B:=300)).mono ?_);rintro e w_f ⟨s_f,A_f,n_f,c_f,B_f,m_f,d_f,t_f,E_f,i_f,e_f,F_f,j_f,f_f,rfl,f,hh⟩
        (try replace hL:=hL.below hh);(try replace LB:=LB.below hh);(try replace p0:=p0.below hh);(try replace p9:=p9.below hh);(try replace E0:=E0.below hh);(try replace E9a:=E9a.below hh);(try replace a:=a.below hh);(try replace XA:=XA.below hh);(try replace b:=b.below hh);(try replace XB:=XB.below hh);(try replace x:=x.below hh);(try replace XX:=XX.below hh);(try replace y:=y.below hh);(try replace XY:=XY.below hh);replace hb:=bend hb hh;replace hE:=EachH.belowR hE hh;replace eB:=EachH.belowR eB hh))
    clear h
    have XF:=B6.new' w_f (Value.bool s_f) (Value.slice A_f n_f c_f) (Value.slice B_f m_f d_f) (Value.bool t_f) (Value.slice E_f i_f e_f) (Value.slice F_f j_f f_f) w_f.heap.size rfl
    have hh:Below w_f.heap.size w_f (w_f.alloc (Obj.cells #[Value.bool s_f,Value.slice A_f n_f c_f,Value.slice B_f m_f d_f,Value.bool t_f,Value.slice E_f i_f e_f,Value.slice F_f j_f f_f] 28)):=(Below.refl w_f.heap.size w_f).alloc (Nat.le_refl _) _
    generalize (w_f.alloc (Obj.cells #[Value.bool s_f,Value.slice A_f n_f c_f,Value.slice B_f m_f d_f,Value.bool t_f,Value.slice E_f i_f e_f,Value.slice F_f j_f f_f] 28))=W5 at *
    replace hL:=hL.below hh;replace LB:=LB.below hh;replace p0:=p0.below hh;replace p9:=p9.below hh;replace E0:=E0.below hh;replace E9a:=E9a.below hh;replace a:=a.below hh;replace XA:=XA.below hh;replace b:=b.below hh;replace XB:=XB.below hh;replace x:=x.below hh;replace XX:=XX.below hh;replace y:=y.below hh;replace XY:=XY.below hh;replace f:=f.below hh;replace hE:=EachH.belowR hE hh;replace eB:=EachH.belowR eB hh;replace hb:=bend hb hh;clear hh
    go_upto_region 15 with (first
     | (go_at_call 31;(with_reducible refine (rof_q (255 - (k8:Int)) 255 (by omega) (by omega) (by decide) (by decide) (by decide) _).mono ?_);rintro e w_h ⟨s_h,A_h,n_h,c_h,B_h,m_h,d_h,rfl,h,hh⟩
        (try replace hL:=hL.below hh);(try replace LB:=LB.below hh);(try replace p0:=p0.below hh);(try replace p9:=p9.below hh);(try replace E0:=E0.below hh);(try replace E9a:=E9a.below hh);(try replace a:=a.below hh);(try replace XA:=XA.below hh);(try replace b:=b.below hh);(try replace XB:=XB.below hh);(try replace x:=x.below hh);(try replace XX:=XX.below hh);(try replace y:=y.below hh);(try replace XY:=XY.below hh);(try replace f:=f.below hh);(try replace XF:=XF.below hh);replace hb:=bend hb hh;replace hE:=EachH.belowR hE hh;replace eB:=EachH.belowR eB hh)
     | (go_at_call 21;(with_reducible refine (cat_any LB eB rfl h.qr (by decide) (by decide) (by decide) (by decide) HGR.out HD.out (by decide) (B:=300)).mono ?_);rintro e w_g ⟨s_g,A_g,n_g,c_g,B_g,m_g,d_g,t_g,E_g,i_g,e_g,F_g,j_g,f_g,rfl,g,hh⟩
        (try replace hL:=hL.below hh);(try replace LB:=LB.below hh);(try replace p0:=p0.below hh);(try replace p9:=p9.below hh);(try replace E0:=E0.below hh);(try replace E9a:=E9a.below hh);(try replace a:=a.below hh);(try replace XA:=XA.below hh);(try replace b:=b.below hh);(try replace XB:=XB.below hh);(try replace x:=x.below hh);(try replace XX:=XX.below hh);(try replace y:=y.below hh);(try replace XY:=XY.below hh);(try replace f:=f.below hh);(try replace XF:=XF.below hh);replace hb:=bend hb hh;replace hE:=EachH.belowR hE hh;replace eB:=EachH.belowR eB hh))
    clear h
    have XG:=B6.new' w_g (Value.bool s_g) (Value.slice A_g n_g c_g) (Value.slice B_g m_g d_g) (Value.bool t_g) (Value.slice E_g i_g e_g) (Value.slice F_g j_g f_g) w_g.heap.size rfl
    have hh:Below w_g.heap.size w_g (w_g.alloc (Obj.cells #[Value.bool s_g,Value.slice A_g n_g c_g,Value.slice B_g m_g d_g,Value.bool t_g,Value.slice E_g i_g e_g,Value.slice F_g j_g f_g] 28)):=(Below.refl w_g.heap.size w_g).alloc (Nat.le_refl _) _
    generalize (w_g.alloc (Obj.cells #[Value.bool s_g,Value.slice A_g n_g c_g,Value.slice B_g m_g d_g,Value.bool t_g,Value.slice E_g i_g e_g,Value.slice F_g j_g f_g] 28))=W6 at *
    replace hL:=hL.below hh;replace LB:=LB.below hh;replace p0:=p0.below hh;replace p9:=p9.below hh;replace E0:=E0.below hh;replace E9a:=E9a.below hh;replace a:=a.below hh;replace XA:=XA.below hh;replace b:=b.below hh;replace XB:=XB.below hh;replace x:=x.below hh;replace XX:=XX.below hh;replace y:=y.below hh;replace XY:=XY.below hh;replace f:=f.below hh;replace XF:=XF.below hh;replace g:=g.below hh;replace hE:=EachH.belowR hE hh;replace eB:=EachH.belowR eB hh;replace hb:=bend hb hh;clear hh;obtain ⟨xa0,xa1,xa2,xa3,xa4,xa5⟩:=XA.all;obtain ⟨xb0,xb1,xb2,xb3,xb4,xb5⟩:=XB.all;obtain ⟨xx0,xx1,xx2,xx3,xx4,xx5⟩:=XX.all;obtain ⟨xy0,xy1,xy2,xy3,xy4,xy5⟩:=XY.all;obtain ⟨xf0,xf1,xf2,xf3,xf4,xf5⟩:=XF.all;obtain ⟨xg0,xg1,xg2,xg3,xg4,xg5⟩:=XG.all
    go_wp2_with (first
     | (go_at_call 32;(with_reducible refine (psame_p a.pr x.pr (by decide) (by decide) (by decide) (by decide) true HS1.out).mono ?_);rintro e w_z ⟨rfl,hh⟩
        (try replace a:=a.below hh);(try replace b:=b.below hh);(try replace x:=x.below hh);(try replace y:=y.below hh);(try replace f:=f.below hh);(try replace g:=g.below hh);(try replace XA:=XA.below hh);(try replace XB:=XB.below hh);(try replace XX:=XX.below hh);(try replace XY:=XY.below hh);(try replace XF:=XF.below hh);(try replace XG:=XG.below hh);replace hb:=bend hb hh;obtain ⟨xa0,xa1,xa2,xa3,xa4,xa5⟩:=XA.all;obtain ⟨xb0,xb1,xb2,xb3,xb4,xb5⟩:=XB.all;obtain ⟨xx0,xx1,xx2,xx3,xx4,xx5⟩:=XX.all;obtain ⟨xy0,xy1,xy2,xy3,xy4,xy5⟩:=XY.all;obtain ⟨xf0,xf1,xf2,xf3,xf4,xf5⟩:=XF.all;obtain ⟨xg0,xg1,xg2,xg3,xg4,xg5⟩:=XG.all)
     | (go_at_call 32;(with_reducible refine (psame_p b.pr y.pr (by decide) (by decide) (by decide) (by decide) true HS2.out).mono ?_);rintro e w_z ⟨rfl,hh⟩
        (try replace a:=a.below hh);(try replace b:=b.below hh);(try replace x:=x.below hh);(try replace y:=y.below hh);(try replace f:=f.below hh);(try replace g:=g.below hh);(try replace XA:=XA.below hh);(try replace XB:=XB.below hh);(try replace XX:=XX.below hh);(try replace XY:=XY.below hh);(try replace XF:=XF.below hh);(try replace XG:=XG.below hh);replace hb:=bend hb hh;obtain ⟨xa0,xa1,xa2,xa3,xa4,xa5⟩:=XA.all;obtain ⟨xb0,xb1,xb2,xb3,xb4,xb5⟩:=XB.all;obtain ⟨xx0,xx1,xx2,xx3,xx4,xx5⟩:=XX.all;obtain ⟨xy0,xy1,xy2,xy3,xy4,xy5⟩:=XY.all;obtain ⟨xf0,xf1,xf2,xf3,xf4,xf5⟩:=XF.all;obtain ⟨xg0,xg1,xg2,xg3,xg4,xg5⟩:=XG.all)
     | (go_at_call 32;(with_reducible refine (psame_p f.pr g.pr (by decide) (by decide) (by decide) (by decide) true HS3.out).mono ?_);rintro e w_z ⟨rfl,hh⟩
        (try replace a:=a.below hh);(try replace b:=b.below hh);(try replace x:=x.below hh);(try replace y:=y.below hh);(try replace f:=f.below hh);(try replace g:=g.below hh);(try replace XA:=XA.below hh);(try replace XB:=XB.below hh);(try replace XX:=XX.below hh);(try replace XY:=XY.below hh);(try replace XF:=XF.below hh);(try replace XG:=XG.below hh);replace hb:=bend hb hh)
     | (go_at_call 10;(with_reducible refine (wakes13_any _).mono ?_);rintro e w_z ⟨rfl,hh⟩
        replace hb:=bend hb hh))
    (try rw [Exit.noGoto_ret])
    go_ret;exact ⟨rfl,hb⟩
end
section
open Go Go.ChangeShapes Go.WideShapes Go.ChangeAt Go.RowKit
theorem open_rat3 {H:Type} {enc:TypeId × Value→H} {base fuel:Nat} {held:Bool} {x0 x1 x2:Value} {y:DataW H × List MemPlace}
 (h:DataW.trod enc Tryz.prog w base (fun _=>true) held fuel 26 [x0,x1,x2]=some y) :
 ∃ (q:QV) (zs ys:List Int),x0=.bool q.s∧x1=.slice q.A q.n q.c∧x2=.slice q.B q.m q.d∧IsRow64 w q.A q.n q.c zs∧IsRow64 w q.B q.m q.d ys:=by
 have e0:Tryz.prog.cellsOf 24=2:=by kernel_rfl
 have e1:Tryz.prog.cellsOf 22=1:=by kernel_rfl
 have e2:Tryz.prog.cellsOf 4=1:=by kernel_rfl
 obtain ⟨z0,z1,m,hx2,_,h2,h3⟩:=trod_struct2 Tryz.underlying26 h
 simp [e0] at h2
 simp [e1] at h3
 obtain ⟨u0,u1,k,hx4,_,h6,h7⟩:=trod_struct2 Tryz.underlying24 h2
 simp [e2] at h6
 simp [e1] at h7
 obtain ⟨b,hb,_⟩:=DataW.trod_bool Tryz.underlying4 h6
 cases hb
 obtain ⟨A1,n1,c1,zs1,rfl,r1⟩:∃ A n c zs,x1=.slice A n c∧IsRow64 w A n c zs:=by
  rcases open_ints Tryz.underlying22 Tryz.underlying101 (by kernel_rfl) h7 with ⟨hcs,_⟩ | ⟨x,l,c,zs,hcs,_,hl,hm,hz,_,hcell,hwz⟩
  · exact ⟨none,0,0,[],by cases hcs;rfl,.inl ⟨rfl,rfl,rfl,rfl⟩⟩
  · exact ⟨some x,l,c,zs,by cases hcs;rfl,.inr ⟨x,rfl,hl,hm,by simpa using hz,hcell,hwz⟩⟩
 obtain ⟨A2,n2,c2,zs2,rfl,r2⟩:∃ A n c zs,x2=.slice A n c∧IsRow64 w A n c zs:=by
  rcases open_ints Tryz.underlying22 Tryz.underlying101 (by kernel_rfl) h3 with ⟨hcs,_⟩ | ⟨x,l,c,zs,hcs,_,hl,hm,hz,_,hcell,hwz⟩
  · exact ⟨none,0,0,[],by cases hcs;rfl,.inl ⟨rfl,rfl,rfl,rfl⟩⟩
  · exact ⟨some x,l,c,zs,by cases hcs;rfl,.inr ⟨x,rfl,hl,hm,by simpa using hz,hcell,hwz⟩⟩
 exact ⟨⟨_,A1,n1,c1,A2,n2,c2⟩,zs1,zs2,rfl,rfl,rfl,r1,r2⟩
def MRows (w:World) (m:MV):Prop:=(∃ zs,IsRow64 w m.a.A m.a.n m.a.c zs)∧(∃ zs,IsRow64 w m.a.B m.a.m m.a.d zs)∧(∃ zs,IsRow64 w m.b.A m.b.n m.b.c zs)∧(∃ zs,IsRow64 w m.b.B m.b.m m.b.d zs)∧(∃ zs,IsRow64 w m.c.A m.c.n m.c.c zs)∧(∃ zs,IsRow64 w m.c.B m.c.m m.c.d zs)∧(∃ zs,IsRow64 w m.d.A m.d.n m.d.c zs)∧(∃ zs,IsRow64 w m.d.B m.d.m m.d.d zs)∧(∃ zs,IsRow64 w m.e.A m.e.n m.e.c zs)∧(∃ zs,IsRow64 w m.e.B m.e.m m.e.d zs)∧(∃ zs,IsRow64 w m.f.A m.f.n m.f.c zs)∧(∃ zs,IsRow64 w m.f.B m.f.m m.f.d zs)
theorem MRows.mr {m:MV} (h:MRows w m):∃ v:AM,((((m.a.n≤6∧m.a.m≤6)∧m.b.n≤6∧m.b.m≤6)∧(((m.c.n≤6∧m.c.m≤6)∧m.d.n≤6∧m.d.m≤6))∧(((m.e.n≤6∧m.e.m≤6)∧m.f.n≤6∧m.f.m≤6)))→MR w m v 6 6):=by
 obtain ⟨⟨_,ra⟩,⟨_,ta⟩,⟨_,rb⟩,⟨_,tb⟩,⟨_,rc⟩,⟨_,tc⟩,⟨_,rd⟩,⟨_,td⟩,⟨_,re⟩,⟨_,te⟩,⟨_,rf⟩,⟨_,tf⟩⟩:=h
 obtain ⟨lia,pa,sa,ea,_⟩:=ra.rd
 obtain ⟨lja,qa,ua,ga,_⟩:=ta.rd
 obtain ⟨lib,pb,sb,eb,_⟩:=rb.rd
 obtain ⟨ljb,qb,ub,gb,_⟩:=tb.rd
 obtain ⟨lic,pc,sc,ec,_⟩:=rc.rd
 obtain ⟨ljc,qc,uc,gc,_⟩:=tc.rd
 obtain ⟨lid,pd,sd,ed,_⟩:=rd.rd
 obtain ⟨ljd,qd,ud,gd,_⟩:=td.rd
 obtain ⟨lie,pe,se,ee,_⟩:=re.rd
 obtain ⟨lje,qe,ue,ge,_⟩:=te.rd
 obtain ⟨lif,pf,sf,ef,_⟩:=rf.rd
 obtain ⟨ljf,qf,uf,gf,_⟩:=tf.rd
 exact ⟨⟨_,_,_,_,_,_⟩,fun k=>⟨⟨QR.of_rd pa sa ea qa ua ga k.1.1.1 k.1.1.2,QR.of_rd pb sb eb qb ub gb k.1.2.1 k.1.2.2⟩,⟨QR.of_rd pc sc ec qc uc gc k.2.1.1.1 k.2.1.1.2,QR.of_rd pd sd ed qd ud gd k.2.1.2.1 k.2.1.2.2⟩,⟨QR.of_rd pe se ee qe ue ge k.2.2.1.1 k.2.2.1.2,QR.of_rd pf sf ef qf uf gf k.2.2.2.1 k.2.2.2.2⟩⟩⟩
end
section
open Go Go.ChangeShapes Go.WideShapes Go.ChangeAt Go.RowKit
def QV.Raw (w:World) (q:QV):Prop:=(∃ zs,IsRow64 w q.A q.n q.c zs)∧∃ zs,IsRow64 w q.B q.m q.d zs
def HV.Raw (w:World) (p:HV):Prop:=p.x.Raw w∧p.y.Raw w∧p.w.Raw w
theorem open_hom9 {H:Type} {enc:TypeId × Value→H} {base fuel:Nat} {held:Bool} {x0 x1 x2 x3 x4 x5 x6 x7 x8:Value} {y:DataW H × List MemPlace}
 (h:DataW.trod enc Tryz.prog w base (fun _=>true) held fuel 73 [x0,x1,x2,x3,x4,x5,x6,x7,x8]=some y) :
 ∃ p:HV,x0=.bool p.x.s∧x1=.slice p.x.A p.x.n p.x.c∧x2=.slice p.x.B p.x.m p.x.d∧x3=.bool p.y.s∧x4=.slice p.y.A p.y.n p.y.c∧x5=.slice p.y.B p.y.m p.y.d∧x6=.bool p.w.s∧x7=.slice p.w.A p.w.n p.w.c∧x8=.slice p.w.B p.w.m p.w.d∧p.Raw w:=by
 have e3:Tryz.prog.cellsOf 26=3:=by kernel_rfl
 obtain ⟨xs,n,_,_,_,hlen,hi⟩:=DataW.trod_struct Tryz.underlying73 h
 match xs,hlen with
 | [y0,y1,y2],_ =>
   have h0:=hi 0 _ rfl
   simp [e3] at h0
   have h1:=hi 1 _ rfl
   simp [e3] at h1
   have h2:=hi 2 _ rfl
   simp [e3] at h2
   obtain ⟨q0,z0,s0,rfl,rfl,rfl,r0,t0⟩:=open_rat3 h0
   obtain ⟨q1,z1,s1,rfl,rfl,rfl,r1,t1⟩:=open_rat3 h1
   obtain ⟨q2,z2,s2,rfl,rfl,rfl,r2,t2⟩:=open_rat3 h2
   exact ⟨⟨q0,q1,q2⟩,rfl,rfl,rfl,rfl,rfl,rfl,rfl,rfl,rfl,⟨⟨z0,r0⟩,⟨s0,t0⟩⟩,⟨⟨z1,r1⟩,⟨s1,t1⟩⟩,⟨z2,r2⟩,⟨s2,t2⟩⟩
theorem open_zhoms {H:Type} {enc:TypeId × Value→H} {base:Nat} {held:Bool} {r:Reach} {b0:Nat} {v:Value} {d:DataW H} {p:List MemPlace}
 (hv:Value.okWide Tryz.prog w r b0 37 v) (h:DataW.Trod enc Tryz.prog w base (fun _=>true) held 37 v d p) :
 ∃ (A:Option Addr) (n c:Nat) (L:List HV),v=.slice A n c∧SV w A (hvs L)∧L.length=n∧n≤c∧n≤maxLen∧∀ q ∈ L,q.Raw w:=by
 obtain ⟨A,n,c,rfl⟩:=okWide_slice Tryz.underlying37 hv
 have e9:Tryz.prog.cellsOf 73=9:=by kernel_rfl
 obtain ⟨fuel,hf⟩:=h
 rcases DataW.trod_slice Tryz.underlying37 hf with ⟨h0,_⟩ | ⟨a,len,cap,elems,rest,m,_,h0,_,hb,hl,hm,hlen,hel,_,_⟩
 · simp [Value.cells] at h0
   obtain ⟨rfl,rfl,rfl⟩:=h0
   exact ⟨none,0,0,[],rfl,SV.nil _ _,rfl,Nat.le_refl _,Nat.zero_le _,fun q hq=>by cases hq⟩
 · simp [Value.cells] at h0
   obtain ⟨rfl,rfl,rfl⟩:=h0
   rw [e9] at hel
   have each:∀ i,i < n→∃ q:HV,(∀ j u,q.cells[j]?=some u→w.cell? ((a.add (i*9)).add j)=some u)∧q.Raw w:=by
    intro i hi
    have h1:=hel i hi
    rw [List.getElem?_eq_getElem (by rw [hlen];exact hi)] at h1
    obtain ⟨cs,hc1,hc2⟩:=Option.bind_eq_some_iff.1 h1
    unfold World.cells? at hc1
    split at hc1
    · have hcl:=mapM_some_length hc1
      have hcg:=fun k (hk:k < 9)=>mapM_some_get hc1 k k (by simp [hk])
      rw [List.length_range] at hcl
      match cs,hcl with
      | [x0,x1,x2,x3,x4,x5,x6,x7,x8],_ =>
        obtain ⟨p,rfl,rfl,rfl,rfl,rfl,rfl,rfl,rfl,rfl,r1⟩:=open_hom9 hc2
        refine ⟨p,fun j u hu=>?_,r1⟩
        have hj:j < 9:=(List.getElem?_eq_some_iff.1 hu).1
        have:=hcg j hj
        rw [this];exact hu
    · cases hc1
   obtain ⟨L,hL,hq⟩:∃ L:List HV,L.length=n∧∀ i q,L[i]?=some q→(∀ j u,q.cells[j]?=some u→w.cell? ((a.add (i*9)).add j)=some u)∧q.Raw w:=by
    have:∀ m,m≤n→∃ L:List HV,L.length=m∧∀ i q,L[i]?=some q→(∀ j u,q.cells[j]?=some u→w.cell? ((a.add (i*9)).add j)=some u)∧q.Raw w:=by
     intro m
     induction m with
     | zero=>intro _;exact ⟨[],rfl,fun i q h=>by cases h⟩
     | succ m ih =>
       intro hm
       obtain ⟨L,h1,h2⟩:=ih (by omega)
       obtain ⟨q,h3⟩:=each m (by omega)
       refine ⟨L ++ [q],by rw [List.length_append,h1];rfl,fun i x hx=>?_⟩
       rcases Nat.lt_or_ge i L.length with k | k
       · rw [List.getElem?_append_left k] at hx;exact h2 i x hx
       · rw [List.getElem?_append_right k] at hx
         have:i - L.length=0:=by
          have:=(List.getElem?_eq_some_iff.1 hx).1
          simp at this;omega
         rw [this] at hx
         cases hx
         rw [show i=m by omega];exact h3
    exact this n (Nat.le_refl _)
   refine ⟨some a,n,c,L,rfl,fun hn=>?_,hL,hl,by omega,fun q hq2=>?_⟩
   · have hn0:0 < n:=by rw [show (hvs L).length=L.length*9 from rows_length hvc_len L,hL] at hn;omega
     obtain ⟨b,o,spot⟩:=a
     have hx:=(hq 0 _ (List.getElem?_eq_getElem (by rw [hL];exact hn0))).1 0 _ rfl
     have hspot:spot=none:=by simpa [Addr.add] using World.cell?_spot hx
     subst hspot
     refine ⟨b,o,rfl,?_,fun j u hu=>?_⟩
     · rw [add_at,add_at] at hx
       exact World.block_lt_of_cell? w _ hx
     · have hj:=(List.getElem?_eq_some_iff.1 hu).1
       rw [show (hvs L).length=L.length*9 from rows_length hvc_len L,hL] at hj
       obtain ⟨i,k,hk,rfl⟩:∃ i k,k < 9∧j=i*9+k:=⟨j / 9,j % 9,Nat.mod_lt _ (by decide),by omega⟩
       have hi:i < L.length:=by omega
       have hg:=List.getElem?_eq_getElem hi
       have:=(hq i _ hg).1 k u (by rw [← rows_get hvc_len hg hk];exact hu)
       rw [add_at,add_at] at this
       rwa [← Nat.add_assoc]
   · obtain ⟨i,hi⟩:=List.getElem?_of_mem hq2
     exact (hq i q hi).2
theorem raw_qr {q:QV} {M:Nat} (h:q.Raw w) (hs:q.small M):∃ v,QR w q.s q.A q.n q.c q.B q.m q.d v M:=by
 obtain ⟨⟨_,ra⟩,⟨_,ta⟩⟩:=h
 obtain ⟨l1,a1,b1,c1,_⟩:=ra.rd
 obtain ⟨l2,a2,b2,c2,_⟩:=ta.rd
 exact ⟨_,QR.of_rd a1 b1 c1 a2 b2 c2 hs.1 hs.2⟩
theorem raw_hr {p:HV} {M:Nat} (h:p.Raw w) (hs:p.small M):∃ u,HR w p u M:=by
 obtain ⟨x,hx⟩:=raw_qr h.1 hs.1
 obtain ⟨y,hy⟩:=raw_qr h.2.1 hs.2.1
 obtain ⟨z,hz⟩:=raw_qr h.2.2 hs.2.2
 exact ⟨⟨x,y,z⟩,hx,hy,hz⟩
theorem raw_eachH {M:Nat}:∀ {L:List HV},(∀ p ∈ L,p.Raw w)→(∀ p ∈ L,p.small M)→∃ l,EachH HR w L l M
 | [],_,_=>⟨[],EachH.nil⟩
 | p :: L,h,hs=>by
   obtain ⟨u,hu⟩:=raw_hr (h p List.mem_cons_self) (hs p List.mem_cons_self)
   obtain ⟨l,hl⟩:=raw_eachH (L:=L) (fun q hq=>h q (List.mem_cons_of_mem _ hq)) (fun q hq=>hs q (List.mem_cons_of_mem _ hq))
   refine ⟨u :: l,by rw [List.length_cons,List.length_cons,hl.1],fun i q v h1 h2=>?_⟩
   match i,h1,h2 with
   | 0,h1,h2=>cases h1;cases h2;exact hu
   | i+1,h1,h2=>exact hl.2 i q v h1 h2
end
section
open Go Go.RowKit
theorem law_ends13 {A:Option Addr} {n c k8:Nat} {L:List HV} (hL:SV w A (hvs L)) (hn:L.length=n) (hm:n≤maxLen) (hz:∀ p ∈ L,p.Raw w) (hk8:k8≤255) :
 Calls Tryz.prog 5 #[.slice A n c,.int .u8 (k8:Int)] w fun e w'=>e=.returned (.bool true)∧Below w.heap.size w w':=by
 by_cases hs:(∀ p ∈ L,p.small 4)∧n≤6
 · obtain ⟨V,hE⟩:=raw_eachH hz hs.1
   by_cases hg:GoodH V
   · exact ends_p hL hn hE hs hk8 hg
   · exact ends_g hL hn hE hs hg
 · exact ends_f hL hn hm hs
end
end Go.Proofs.YtananlhdmekmjaaGreat
