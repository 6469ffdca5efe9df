/- CurveHull: part 15. -/
import Derived.Test.YtananlhdmekmjaaGreatKCurveHull10
import Derived.Test.YtananlhdmekmjaaGreatKCurveHull14
set_option linter.unusedVariables false
set_option maxRecDepth 100000
set_option maxHeartbeats 16000000
variable {w:Go.World}
variable {s_p t_p:Bool} {A_p B_p E_p F_p:Option Go.Addr} {n_p c_p m_p d_p i_p e_p j_p f_p:Nat}
namespace Go.Proofs.YtananlhdmekmjaaGreat
section
open Go Go.RowKit
attribute [local go_sem ↓] open_LVM open_STM open_LVN open_STN
attribute [local go_sem ↓] open_LVH open_STH open_LVJ open_STJ
instance (V:List AH):Decidable (GoodH V):=by unfold GoodH;exact inferInstance
abbrev wkV0:List AH:=(quadH [(Rat.divInt 0 1,Rat.divInt 0 1),(Rat.divInt 1 1,Rat.divInt 2 1),(Rat.divInt 2 1,Rat.divInt 0 1)])
abbrev wkU:SV8:=(⟨5,64,128,128,0,0,0,128⟩:SV8)
abbrev wkV1:List AH:=(ofL AM.one (Rat.divInt 0 1) (Rat.divInt 0 1) (⟨5,64,128,128,0,0,0,128⟩:SV8) 2)
theorem wk13_good:GoodH wkV0:=by decide +kernel
theorem wk13_good1:GoodH wkV1:=by decide +kernel
theorem wk13_t0:0≤Rat.divInt 1 2:=by decide +kernel
theorem wk13_t1:Rat.divInt 1 2≤1:=by decide +kernel
theorem wk13_ts:sgnQ (Rat.divInt 1 2)=1:=by decide +kernel
theorem wk13_us:sgnQ (Rat.divInt 3 2)=1:=by decide +kernel
theorem wk13_u1:1 < Rat.divInt 3 2:=by decide +kernel
theorem wk13_at:decide ((bez (Rat.divInt 1 2) wkV0).px=Rat.divInt 1 1∧(bez (Rat.divInt 1 2) wkV0).py=Rat.divInt 1 1)=true:=by decide +kernel
theorem wk13_w:(⟨(qtxt (ofA AM.one wkU 0).w).toArray⟩:ByteArray)=⟨#[50]⟩:=by
 rw [qtxt_i (a:=2) (by decide +kernel) (by decide +kernel) (txt_one (d:=2) (by decide) (by decide) rfl)];rfl
theorem wk13_y:(⟨(qtxt (ofA AM.one wkU 0).y).toArray⟩:ByteArray)=⟨#[52]⟩:=by
 rw [qtxt_i (a:=4) (by decide +kernel) (by decide +kernel) (txt_one (d:=4) (by decide) (by decide) rfl)];rfl
theorem wk13_in:wkU.In:=⟨by unfold i64In;decide,fun i=>by
 match i with
 | 0=>show i64In 64;unfold i64In;decide
 | 1=>show i64In 128;unfold i64In;decide
 | 2=>show i64In 128;unfold i64In;decide
 | 3=>show i64In 0;unfold i64In;decide
 | 4=>show i64In 0;unfold i64In;decide
 | i+5=>show i64In 0;unfold i64In;decide,by unfold i64In;decide⟩
theorem wk_of {m:MV} (p:PG w s_p A_p n_p c_p B_p m_p d_p t_p E_p i_p e_p F_p j_p f_p (Rat.divInt 0 1) (Rat.divInt 0 1) 1) (M:MG w m AM.one 1 1) :
 Calls Tryz.prog 11 #[.agg #[.bool s_p,.slice A_p n_p c_p,.slice B_p m_p d_p,.bool t_p,.slice E_p i_p e_p,.slice F_p j_p f_p],.agg #[.int .i64 5,.int .i64 64,.int .i64 128,.int .i64 128,.int .i64 0,.int .i64 0,.int .i64 0,.int .i64 128],.agg #[.bool m.a.s,.slice m.a.A m.a.n m.a.c,.slice m.a.B m.a.m m.a.d,.bool m.b.s,.slice m.b.A m.b.n m.b.c,.slice m.b.B m.b.m m.b.d,.bool m.c.s,.slice m.c.A m.c.n m.c.c,.slice m.c.B m.c.m m.c.d,.bool m.d.s,.slice m.d.A m.d.n m.d.c,.slice m.d.B m.d.m m.d.d,.bool m.e.s,.slice m.e.A m.e.n m.e.c,.slice m.e.B m.e.m m.e.d,.bool m.f.s,.slice m.f.A m.f.n m.f.c,.slice m.f.B m.f.m m.f.d]] w (GivesHsE w wkV1 8) :=
 cof_5 (u:=wkU) p.pr M.mr wk13_in (by decide) (by decide) (by decide) (by decide) (by decide) 2 rfl (by decide) rfl (by decide)
theorem wakes13_any (w:World):Calls Tryz.prog 10 #[] w fun e w'=>e=.returned (.bool true)∧Below w.heap.size w w':=by
 have hb:Below w.heap.size w w:=Below.refl _ _
 go_enter Tryz.func10,Tryz.ntmps10
 go_upto_region 3 with (first
  | (go_at_call 38;(with_reducible refine (lawP 0 0 (by decide) (by decide) (by decide) (by decide) _).mono ?_);rintro e w_p ⟨s_p,A_p,n_p,c_p,B_p,m_p,d_p,t_p,E_p,i_p,e_p,F_p,j_p,f_p,rfl,p,hh⟩
     replace hb:=bend hb hh)
  | (go_at_call 38;(with_reducible refine (lawP 1 2 (by decide) (by decide) (by decide) (by decide) _).mono ?_);rintro e w_q ⟨s_q,A_q,n_q,c_q,B_q,m_q,d_q,t_q,E_q,i_q,e_q,F_q,j_q,f_q,rfl,q,hh⟩
     (try replace p:=p.below hh);replace hb:=bend hb hh)
  | (go_at_call 38;(with_reducible refine (lawP 2 0 (by decide) (by decide) (by decide) (by decide) _).mono ?_);rintro e w_r ⟨s_r,A_r,n_r,c_r,B_r,m_r,d_r,t_r,E_r,i_r,e_r,F_r,j_r,f_r,rfl,r,hh⟩
     (try replace p:=p.below hh);(try replace q:=q.below hh);replace hb:=bend hb hh)
  | (go_at_call 39;(with_reducible refine (cquad p q r (by decide)).mono ?_);rintro e w_u ⟨v1,M1,rfl,l1,e1,hh⟩
     replace hb:=bend hb hh
     obtain ⟨A_x,c_x,rfl,_,_⟩:=l1.form
     have hM1:M1.length=3:=e1.1
     rw [hM1] at l1 ⊢
     have LM1:=l1.sv)
  | (go_at_call 31;(with_reducible refine (rof_q 1 2 (by decide) (by decide) (by decide) (by decide) (by decide) _).mono ?_);rintro e w_h ⟨s_h,A_h,n_h,c_h,B_h,m_h,d_h,rfl,h,hh⟩
     (try replace LM1:=LM1.below hh);replace hb:=bend hb hh;replace e1:=EachH.belowG e1 hh)
  | (go_at_call 21;(with_reducible refine (cat_p1 (n:=3) LM1 e1.hr hM1 h.qr (by decide) (by decide) (by decide) (by decide) wk13_good wk13_t0 wk13_t1 wk13_ts).mono ?_);rintro e w_a ⟨s_a,A_a,n_a,c_a,B_a,m_a,d_a,t_a,E_a,i_a,e_a,F_a,j_a,f_a,rfl,a,hh⟩
     replace hb:=bend hb hh))
 clear p q r LM1 l1 e1 h
 have XQ:=B6.new' w_a (Value.bool s_a) (Value.slice A_a n_a c_a) (Value.slice B_a m_a d_a) (Value.bool t_a) (Value.slice E_a i_a e_a) (Value.slice F_a j_a f_a) w_a.heap.size rfl
 have hh:Below w_a.heap.size w_a (w_a.alloc (Obj.cells #[Value.bool s_a,Value.slice A_a n_a c_a,Value.slice B_a m_a d_a,Value.bool t_a,Value.slice E_a i_a e_a,Value.slice F_a j_a f_a] 28)):=(Below.refl w_a.heap.size w_a).alloc (Nat.le_refl _) _
 generalize (w_a.alloc (Obj.cells #[Value.bool s_a,Value.slice A_a n_a c_a,Value.slice B_a m_a d_a,Value.bool t_a,Value.slice E_a i_a e_a,Value.slice F_a j_a f_a] 28))=W2 at *
 replace a:=a.below hh;replace hb:=bend hb hh;clear hh
 have hcO:Hid True:=trivial
 go_upto_region 4 with (first
  | (go_at_call 38;(with_reducible refine (lawP 0 0 (by decide) (by decide) (by decide) (by decide) _).mono ?_);rintro e w_p ⟨s_p,A_p,n_p,c_p,B_p,m_p,d_p,t_p,E_p,i_p,e_p,F_p,j_p,f_p,rfl,p,hh⟩
     (try replace a:=a.below hh);(try replace XQ:=XQ.below hh);replace hb:=bend hb hh)
  | (go_at_call 33;(with_reducible refine (mone_p _).mono ?_);rintro e w_m ⟨m,rfl,mh,hh⟩
     (try replace a:=a.below hh);(try replace XQ:=XQ.below hh);(try replace p:=p.below hh);replace hb:=bend hb hh)
  | (go_at_call 11;(with_reducible refine (wk_of p mh).mono ?_);rintro e w_l ⟨v2,M2,rfl,l2,e2,hh⟩
     (try replace a:=a.below hh);(try replace XQ:=XQ.below hh);replace hb:=bend hb hh
     obtain ⟨A_y,c_y,rfl,_,_⟩:=l2.form
     have hM2:M2.length=3:=e2.1
     rw [hM2] at l2 ⊢
     have LM2:=l2.sv;clear p mh))
 go_upto_region 5 with (first
  | (go_at_call 31;(with_reducible refine (rof_q 3 2 (by decide) (by decide) (by decide) (by decide) (by decide) _).mono ?_);rintro e w_h ⟨s_h,A_h,n_h,c_h,B_h,m_h,d_h,rfl,h,hh⟩
     (try replace LM2:=LM2.below hh);(try replace a:=a.below hh);(try replace XQ:=XQ.below hh);replace hb:=bend hb hh;replace e2:=EachH.belowG e2 hh)
  | (go_at_call 21;(with_reducible refine (cat_g1 (n:=3) LM2 e2.hr hM2 h.qr (by decide) (by decide) (by decide) (by decide) ⟨fun _=>wk13_good1,fun _=>rfl⟩ wk13_us wk13_u1).mono ?_);rintro e w_b ⟨rfl,hh⟩
     (try replace LM2:=LM2.below hh);(try replace a:=a.below hh);(try replace XQ:=XQ.below hh);replace hb:=bend hb hh;replace e2:=EachH.belowG e2 hh;clear h))
 clear l2
 have XU:=B6.new' w_b (Value.bool false) (Value.slice none 0 0) (Value.slice none 0 0) (Value.bool false) (Value.slice none 0 0) (Value.slice none 0 0) w_b.heap.size rfl
 have hh:Below w_b.heap.size w_b (w_b.alloc (Obj.cells #[Value.bool false,Value.slice none 0 0,Value.slice none 0 0,Value.bool false,Value.slice none 0 0,Value.slice none 0 0] 28)):=(Below.refl w_b.heap.size w_b).alloc (Nat.le_refl _) _
 generalize (w_b.alloc (Obj.cells #[Value.bool false,Value.slice none 0 0,Value.slice none 0 0,Value.bool false,Value.slice none 0 0,Value.slice none 0 0] 28))=W4 at *
 replace a:=a.below hh;replace XQ:=XQ.below hh;replace LM2:=LM2.below hh;replace e2:=EachH.belowG e2 hh;replace hb:=bend hb hh;clear hh
 obtain ⟨P,u,hP,hu,hp⟩:=e2.at_ (i:=1) (by rw [hM2];decide)
 obtain rfl:ofA AM.one wkU 0=u:=by
  have:=hu
  simp [ofL] at this
  exact this
 obtain ⟨g0,o0,hix0,EP,_⟩:=LM2.ht hP
 have hixa:∀ (c:Nat) (w':World),(Instr.indexAt 37 (.slice A_y 3 c) (.int .i64 1)).run Tryz.prog w'=.ok (.pointer (some ⟨g0,o0,none⟩)) w':=fun c w'=>hix0 3 c w' (by decide)
 have hG1:true=true ↔ GoodH wkV1:=⟨fun _=>wk13_good1,fun _=>rfl⟩
 clear hu hP hix0 XU
 replace a:=a.below (Below.refl _ _).drew
 replace XQ:=XQ.below (Below.refl _ _).drew
 replace LM2:=LM2.below (Below.refl _ _).drew
 replace EP:=EP.below (Below.refl _ _).drew
 replace hp:=hp.below (Below.refl _ _).drew
 replace hb:=hb.drew
 replace e2:=EachH.belowG e2 (Below.refl _ _).drew
 refine wp_region_held_drew (S:=(fun w'=>w'.cell? ⟨w_a.heap.size,0,none⟩=some (.bool s_a)∧w'.cell? ⟨w_a.heap.size,1,none⟩=some (.slice A_a n_a c_a)∧w'.cell? ⟨w_a.heap.size,2,none⟩=some (.slice B_a m_a d_a)∧w'.cell? ⟨w_a.heap.size,3,none⟩=some (.bool t_a)∧w'.cell? ⟨w_a.heap.size,4,none⟩=some (.slice E_a i_a e_a)∧w'.cell? ⟨w_a.heap.size,5,none⟩=some (.slice F_a j_a f_a)∧w'.cell? ⟨g0,o0+3,none⟩=some (.bool P.y.s)∧w'.cell? ⟨g0,o0+4,none⟩=some (.slice P.y.A P.y.n P.y.c)∧w'.cell? ⟨g0,o0+5,none⟩=some (.slice P.y.B P.y.m P.y.d)∧w'.cell? ⟨g0,o0+6,none⟩=some (.bool P.w.s)∧w'.cell? ⟨g0,o0+7,none⟩=some (.slice P.w.A P.w.n P.w.c)∧w'.cell? ⟨g0,o0+8,none⟩=some (.slice P.w.B P.w.m P.w.d))) (by kernel_rfl) (by with_reducible exact ⟨XQ.c0,XQ.c1,XQ.c2,XQ.c3,XQ.c4,XQ.c5,EP.c3,EP.c4,EP.c5,EP.c6,EP.c7,EP.c8⟩) (fun hHeld=>?_)
 refine wpAnyH_take (i:=0) (oi:=⟨some 35,.move (.tmp 3),38, "law.go:37",#[],none⟩) (v:=?_) rfl (by kernel_rfl) (by kernel_rfl) (by kernel_rfl) (fun _ _ _ h=>h) (Or.inl ⟨by rfl,?_⟩) hHeld ?_
 rotate_left
 · (intro w hSw;(try dsimp only at hSw);go_simp;try with_reducible rfl)
 simp only [Act.put,List.setIfInBounds_toArray,List.set_cons_zero,List.set_cons_succ]
 refine wpAnyH_take (i:=1) (oi:=⟨some 36,.binOp BinOp.eql 38 (.tmp 35) (.const (Value.int IntKind.i64 0)) 38,4, "law.go:37",#[⟨0,.data⟩],none⟩) (v:=?_) rfl (by kernel_rfl) (by kernel_rfl) (by kernel_rfl) (fun _ _ _ h=>h) (Or.inl ⟨by rfl,?_⟩) hHeld ?_
 rotate_left
 · (intro w hSw;(try dsimp only at hSw);go_simp;try with_reducible rfl)
 simp only [Act.put,List.setIfInBounds_toArray,List.set_cons_zero,List.set_cons_succ]
 refine wpAnyH_take (i:=2) (oi:=⟨some 37,.move (.tmp 36),4, "law.go:37",#[⟨1,.data⟩],none⟩) (v:=?_) rfl (by kernel_rfl) (by kernel_rfl) (by kernel_rfl) (fun _ _ _ h=>h) (Or.inl ⟨by rfl,?_⟩) hHeld ?_
 rotate_left
 · (intro w hSw;(try dsimp only at hSw);go_simp;try with_reducible rfl)
 simp only [Act.put,List.setIfInBounds_toArray,List.set_cons_zero,List.set_cons_succ]
 refine wpAnyH_take (i:=3) (oi:=⟨some 38,.load 28 (.tmp 2),28, "law.go:37",#[⟨2,.guard⟩],some (2,true)⟩) (v:=?_) rfl (by kernel_rfl) (by kernel_rfl) (by kernel_rfl) (fun _ _ _ h=>h) (Or.inl ⟨by rfl,?_⟩) hHeld ?_
 rotate_left
 · (intro w hSw;(try dsimp only at hSw);go_simp;try with_reducible rfl)
 simp only [Act.put,List.setIfInBounds_toArray,List.set_cons_zero,List.set_cons_succ]
 refine wpAnyH_take (i:=4) (oi:=⟨some 39,.move (.tmp 1),87, "law.go:37",#[⟨2,.guard⟩],some (2,true)⟩) (v:=?_) rfl (by kernel_rfl) (by kernel_rfl) (by kernel_rfl) (fun _ _ _ h=>h) (Or.inl ⟨by rfl,?_⟩) hHeld ?_
 rotate_left
 · (intro w hSw;(try dsimp only at hSw);go_simp;try with_reducible rfl)
 simp only [Act.put,List.setIfInBounds_toArray,List.set_cons_zero,List.set_cons_succ]
 refine wpAnyH_ready (rs:=[5]) (by kernel_rfl) (by simp) ?_
 refine AllReadyH.cons (o:=⟨some 40,.call ⟨.value (.tmp 39),#[.const (Value.int IntKind.i64 1),.const (Value.int IntKind.i64 1)],#[2,2]⟩,28, "law.go:37",#[⟨4,.data⟩,⟨2,.chain⟩,⟨2,.guard⟩],some (2,true)⟩) rfl (fun K1 hK1=>?_) AllReadyH.nil
 go_simp
 first
 | (go_at_call 38;(with_reducible refine (lawP 1 1 (by decide) (by decide) (by decide) (by decide) _).mono ?_);rintro e w_p ⟨s_p,A_p,n_p,c_p,B_p,m_p,d_p,t_p,E_p,i_p,e_p,F_p,j_p,f_p,rfl,p,hh⟩
    (try replace a:=a.below hh);(try replace XQ:=XQ.below hh);(try replace LM2:=LM2.below hh);(try replace EP:=EP.below hh);(try replace hp:=hp.below hh);replace hb:=bend hb hh;replace e2:=EachH.belowG e2 hh)
 | (go_at_call 32;(with_reducible refine (psame_p a.pr p.pr (by decide) (by decide) (by decide) (by decide) true wk13_at).mono ?_);rintro e w_z ⟨rfl,hh⟩
    (try replace a:=a.below hh);(try replace XQ:=XQ.below hh);(try replace LM2:=LM2.below hh);(try replace EP:=EP.below hh);(try replace hp:=hp.below hh);replace hb:=bend hb hh;replace e2:=EachH.belowG e2 hh;clear p)
 | (go_at_call 40;(with_reducible refine (rtext_q hp.hr.qw (by decide) (by decide)).mono ?_);rintro e w_z ⟨rfl,hh⟩
    rw [wk13_w];(try replace a:=a.below hh);(try replace XQ:=XQ.below hh);(try replace LM2:=LM2.below hh);(try replace EP:=EP.below hh);(try replace hp:=hp.below hh);replace hb:=bend hb hh;replace e2:=EachH.belowG e2 hh)
 | (go_at_call 40;(with_reducible refine (rtext_q hp.hr.qy (by decide) (by decide)).mono ?_);rintro e w_z ⟨rfl,hh⟩
    rw [wk13_y];(try replace a:=a.below hh);(try replace XQ:=XQ.below hh);(try replace LM2:=LM2.below hh);(try replace EP:=EP.below hh);(try replace hp:=hp.below hh);replace hb:=bend hb hh;replace e2:=EachH.belowG e2 hh)
 | (go_at_call 30;(with_reducible refine (cgood_any LM2 e2.hr hM2 (by decide) (by decide) true hG1).mono ?_);rintro e w_z ⟨rfl,hh⟩
    (try replace a:=a.below hh);(try replace XQ:=XQ.below hh);(try replace LM2:=LM2.below hh);(try replace EP:=EP.below hh);(try replace hp:=hp.below hh);replace hb:=bend hb hh;replace e2:=EachH.belowG e2 hh)
 refine hK1.out _ _ (by with_reducible exact ⟨XQ.c0,XQ.c1,XQ.c2,XQ.c3,XQ.c4,XQ.c5,EP.c3,EP.c4,EP.c5,EP.c6,EP.c7,EP.c8⟩) (fun hHeld=>?_)
 clear hK1 K1
 refine wpAnyH_ready (rs:=[6]) (by kernel_rfl) (by simp) ?_
 refine AllReadyH.cons (o:=⟨some 41,.call ⟨.value (.func 32),#[.tmp 38,.tmp 40],#[28,28]⟩,4, "law.go:37",#[⟨3,.data⟩,⟨5,.data⟩,⟨5,.chain⟩,⟨2,.guard⟩],some (2,true)⟩) rfl (fun K1 hK1=>?_) AllReadyH.nil
 go_simp
 first
 | (go_at_call 38;(with_reducible refine (lawP 1 1 (by decide) (by decide) (by decide) (by decide) _).mono ?_);rintro e w_p ⟨s_p,A_p,n_p,c_p,B_p,m_p,d_p,t_p,E_p,i_p,e_p,F_p,j_p,f_p,rfl,p,hh⟩
    (try replace a:=a.below hh);(try replace XQ:=XQ.below hh);(try replace LM2:=LM2.below hh);(try replace EP:=EP.below hh);(try replace hp:=hp.below hh);replace hb:=bend hb hh;replace e2:=EachH.belowG e2 hh)
 | (go_at_call 32;(with_reducible refine (psame_p a.pr p.pr (by decide) (by decide) (by decide) (by decide) true wk13_at).mono ?_);rintro e w_z ⟨rfl,hh⟩
    (try replace a:=a.below hh);(try replace XQ:=XQ.below hh);(try replace LM2:=LM2.below hh);(try replace EP:=EP.below hh);(try replace hp:=hp.below hh);replace hb:=bend hb hh;replace e2:=EachH.belowG e2 hh;clear p)
 | (go_at_call 40;(with_reducible refine (rtext_q hp.hr.qw (by decide) (by decide)).mono ?_);rintro e w_z ⟨rfl,hh⟩
    rw [wk13_w];(try replace a:=a.below hh);(try replace XQ:=XQ.below hh);(try replace LM2:=LM2.below hh);(try replace EP:=EP.below hh);(try replace hp:=hp.below hh);replace hb:=bend hb hh;replace e2:=EachH.belowG e2 hh)
 | (go_at_call 40;(with_reducible refine (rtext_q hp.hr.qy (by decide) (by decide)).mono ?_);rintro e w_z ⟨rfl,hh⟩
    rw [wk13_y];(try replace a:=a.below hh);(try replace XQ:=XQ.below hh);(try replace LM2:=LM2.below hh);(try replace EP:=EP.below hh);(try replace hp:=hp.below hh);replace hb:=bend hb hh;replace e2:=EachH.belowG e2 hh)
 | (go_at_call 30;(with_reducible refine (cgood_any LM2 e2.hr hM2 (by decide) (by decide) true hG1).mono ?_);rintro e w_z ⟨rfl,hh⟩
    (try replace a:=a.below hh);(try replace XQ:=XQ.below hh);(try replace LM2:=LM2.below hh);(try replace EP:=EP.below hh);(try replace hp:=hp.below hh);replace hb:=bend hb hh;replace e2:=EachH.belowG e2 hh)
 refine hK1.out _ _ (by with_reducible exact ⟨XQ.c0,XQ.c1,XQ.c2,XQ.c3,XQ.c4,XQ.c5,EP.c3,EP.c4,EP.c5,EP.c6,EP.c7,EP.c8⟩) (fun hHeld=>?_)
 clear hK1 K1
 refine wpAnyH_take (i:=7) (oi:=⟨some 42,.pick (.tmp 37) (.tmp 41) (.const (Value.bool false)),4, "law.go:37",#[⟨2,.data⟩,⟨6,.data⟩],none⟩) (v:=?_) rfl (by kernel_rfl) (by kernel_rfl) (by kernel_rfl) (fun _ _ _ h=>h) (Or.inl ⟨by rfl,?_⟩) hHeld ?_
 rotate_left
 · (intro w hSw;(try dsimp only at hSw);go_simp;try with_reducible rfl)
 simp only [Act.put,List.setIfInBounds_toArray,List.set_cons_zero,List.set_cons_succ]
 refine wpAnyH_take (i:=8) (oi:=⟨some 43,.move (.tmp 42),4, "law.go:37",#[⟨7,.data⟩,⟨6,.chain⟩],none⟩) (v:=?_) rfl (by kernel_rfl) (by kernel_rfl) (by kernel_rfl) (fun _ _ _ h=>h) (Or.inl ⟨by rfl,?_⟩) hHeld ?_
 rotate_left
 · (intro w hSw;(try dsimp only at hSw);go_simp;try with_reducible rfl)
 simp only [Act.put,List.setIfInBounds_toArray,List.set_cons_zero,List.set_cons_succ]
 refine wpAnyH_take (i:=9) (oi:=⟨some 44,.move (.tmp 5),38, "law.go:37",#[⟨8,.guard⟩],some (8,true)⟩) (v:=?_) rfl (by kernel_rfl) (by kernel_rfl) (by kernel_rfl) (fun _ _ _ h=>h) (Or.inl ⟨by rfl,?_⟩) hHeld ?_
 rotate_left
 · (intro w hSw;(try dsimp only at hSw);go_simp;try with_reducible rfl)
 simp only [Act.put,List.setIfInBounds_toArray,List.set_cons_zero,List.set_cons_succ]
 refine wpAnyH_take (i:=10) (oi:=⟨some 45,.binOp BinOp.eql 38 (.tmp 44) (.const (Value.int IntKind.i64 0)) 38,4, "law.go:37",#[⟨9,.data⟩,⟨8,.guard⟩],some (8,true)⟩) (v:=?_) rfl (by kernel_rfl) (by kernel_rfl) (by kernel_rfl) (fun _ _ _ h=>h) (Or.inl ⟨by rfl,?_⟩) hHeld ?_
 rotate_left
 · (intro w hSw;(try dsimp only at hSw);go_simp;try with_reducible rfl)
 simp only [Act.put,List.setIfInBounds_toArray,List.set_cons_zero,List.set_cons_succ]
 refine wpAnyH_take (i:=11) (oi:=⟨some 46,.pick (.tmp 43) (.tmp 45) (.const (Value.bool false)),4, "law.go:37",#[⟨8,.data⟩,⟨10,.data⟩],none⟩) (v:=?_) rfl (by kernel_rfl) (by kernel_rfl) (by kernel_rfl) (fun _ _ _ h=>h) (Or.inl ⟨by rfl,?_⟩) hHeld ?_
 rotate_left
 · (intro w hSw;(try dsimp only at hSw);go_simp;try with_reducible rfl)
 simp only [Act.put,List.setIfInBounds_toArray,List.set_cons_zero,List.set_cons_succ]
 refine wpAnyH_take (i:=12) (oi:=⟨some 47,.move (.tmp 46),4, "law.go:37",#[⟨11,.data⟩,⟨8,.chain⟩],none⟩) (v:=?_) rfl (by kernel_rfl) (by kernel_rfl) (by kernel_rfl) (fun _ _ _ h=>h) (Or.inl ⟨by rfl,?_⟩) hHeld ?_
 rotate_left
 · (intro w hSw;(try dsimp only at hSw);go_simp;try with_reducible rfl)
 simp only [Act.put,List.setIfInBounds_toArray,List.set_cons_zero,List.set_cons_succ]
 refine wpAnyH_take (i:=13) (oi:=⟨some 48,.move (.tmp 4),37, "law.go:37",#[⟨12,.guard⟩],some (12,true)⟩) (v:=?_) rfl (by kernel_rfl) (by kernel_rfl) (by kernel_rfl) (fun _ _ _ h=>h) (Or.inl ⟨by rfl,?_⟩) hHeld ?_
 rotate_left
 · (intro w hSw;(try dsimp only at hSw);go_simp;try with_reducible rfl)
 simp only [Act.put,List.setIfInBounds_toArray,List.set_cons_zero,List.set_cons_succ]
 refine wpAnyH_take (i:=14) (oi:=⟨some 49,.call ⟨.builtin Builtin.len,#[.tmp 48],#[37]⟩,3, "law.go:37",#[⟨13,.data⟩,⟨12,.guard⟩],some (12,true)⟩) (v:=?_) rfl (by kernel_rfl) (by kernel_rfl) (by kernel_rfl) (fun _ _ _ h=>h) (Or.inl ⟨by rfl,?_⟩) hHeld ?_
 rotate_left
 · (intro w hSw;(try dsimp only at hSw);go_simp;try with_reducible rfl)
 simp only [Act.put,List.setIfInBounds_toArray,List.set_cons_zero,List.set_cons_succ]
 refine wpAnyH_take (i:=15) (oi:=⟨some 50,.binOp BinOp.eql 3 (.tmp 49) (.const (Value.int IntKind.i64 3)) 3,4, "law.go:37",#[⟨14,.data⟩,⟨12,.guard⟩],some (12,true)⟩) (v:=?_) rfl (by kernel_rfl) (by kernel_rfl) (by kernel_rfl) (fun _ _ _ h=>h) (Or.inl ⟨by rfl,?_⟩) hHeld ?_
 rotate_left
 · (intro w hSw;(try dsimp only at hSw);go_simp;try with_reducible rfl)
 simp only [Act.put,List.setIfInBounds_toArray,List.set_cons_zero,List.set_cons_succ]
 refine wpAnyH_take (i:=16) (oi:=⟨some 51,.pick (.tmp 47) (.tmp 50) (.const (Value.bool false)),4, "law.go:37",#[⟨12,.data⟩,⟨15,.data⟩],none⟩) (v:=?_) rfl (by kernel_rfl) (by kernel_rfl) (by kernel_rfl) (fun _ _ _ h=>h) (Or.inl ⟨by rfl,?_⟩) hHeld ?_
 rotate_left
 · (intro w hSw;(try dsimp only at hSw);go_simp;try with_reducible rfl)
 simp only [Act.put,List.setIfInBounds_toArray,List.set_cons_zero,List.set_cons_succ]
 refine wpAnyH_take (i:=17) (oi:=⟨some 52,.move (.tmp 51),4, "law.go:37",#[⟨16,.data⟩,⟨12,.chain⟩],none⟩) (v:=?_) rfl (by kernel_rfl) (by kernel_rfl) (by kernel_rfl) (fun _ _ _ h=>h) (Or.inl ⟨by rfl,?_⟩) hHeld ?_
 rotate_left
 · (intro w hSw;(try dsimp only at hSw);go_simp;try with_reducible rfl)
 simp only [Act.put,List.setIfInBounds_toArray,List.set_cons_zero,List.set_cons_succ]
 refine wpAnyH_take (i:=18) (oi:=⟨some 53,.move (.tmp 4),37, "law.go:37",#[⟨17,.guard⟩],some (17,true)⟩) (v:=?_) rfl (by kernel_rfl) (by kernel_rfl) (by kernel_rfl) (fun _ _ _ h=>h) (Or.inl ⟨by rfl,?_⟩) hHeld ?_
 rotate_left
 · (intro w hSw;(try dsimp only at hSw);go_simp;try with_reducible rfl)
 simp only [Act.put,List.setIfInBounds_toArray,List.set_cons_zero,List.set_cons_succ]
 refine wpAnyH_take (i:=19) (oi:=⟨some 54,.indexAddr 37 (.tmp 53) (.const (Value.int IntKind.i64 1)),0, "law.go:37",#[⟨18,.data⟩,⟨17,.guard⟩],some (17,true)⟩) (v:=?_) rfl (by kernel_rfl) (by kernel_rfl) (by kernel_rfl) (fun _ _ _ h=>h) (Or.inl ⟨by rfl,?_⟩) hHeld ?_
 rotate_left
 · (intro w hSw;(try dsimp only at hSw);go_simp;try with_reducible rfl)
 simp only [Act.put,List.setIfInBounds_toArray,List.set_cons_zero,List.set_cons_succ]
 refine wpAnyH_take (i:=20) (oi:=⟨some 55,.fieldAddr 73 (.tmp 54) 2,0, "law.go:37",#[⟨19,.data⟩,⟨17,.guard⟩],some (17,true)⟩) (v:=?_) rfl (by kernel_rfl) (by kernel_rfl) (by kernel_rfl) (fun _ _ _ h=>h) (Or.inl ⟨by rfl,?_⟩) hHeld ?_
 rotate_left
 · (intro w hSw;(try dsimp only at hSw);go_simp;try with_reducible rfl)
 simp only [Act.put,List.setIfInBounds_toArray,List.set_cons_zero,List.set_cons_succ]
 refine wpAnyH_take (i:=21) (oi:=⟨some 56,.load 26 (.tmp 55),26, "law.go:37",#[⟨20,.data⟩,⟨17,.guard⟩],some (17,true)⟩) (v:=?_) rfl (by kernel_rfl) (by kernel_rfl) (by kernel_rfl) (fun _ _ _ h=>h) (Or.inl ⟨by rfl,?_⟩) hHeld ?_
 rotate_left
 · (intro w hSw;(try dsimp only at hSw);go_simp;try with_reducible rfl)
 simp only [Act.put,List.setIfInBounds_toArray,List.set_cons_zero,List.set_cons_succ]
 refine wpAnyH_ready (rs:=[22]) (by kernel_rfl) (by simp) ?_
 refine AllReadyH.cons (o:=⟨some 57,.call ⟨.value (.func 40),#[.tmp 56],#[26]⟩,9, "law.go:37",#[⟨21,.data⟩,⟨17,.chain⟩,⟨17,.guard⟩],some (17,true)⟩) rfl (fun K1 hK1=>?_) AllReadyH.nil
 go_simp
 first
 | (go_at_call 38;(with_reducible refine (lawP 1 1 (by decide) (by decide) (by decide) (by decide) _).mono ?_);rintro e w_p ⟨s_p,A_p,n_p,c_p,B_p,m_p,d_p,t_p,E_p,i_p,e_p,F_p,j_p,f_p,rfl,p,hh⟩
    (try replace a:=a.below hh);(try replace XQ:=XQ.below hh);(try replace LM2:=LM2.below hh);(try replace EP:=EP.below hh);(try replace hp:=hp.below hh);replace hb:=bend hb hh;replace e2:=EachH.belowG e2 hh)
 | (go_at_call 32;(with_reducible refine (psame_p a.pr p.pr (by decide) (by decide) (by decide) (by decide) true wk13_at).mono ?_);rintro e w_z ⟨rfl,hh⟩
    (try replace a:=a.below hh);(try replace XQ:=XQ.below hh);(try replace LM2:=LM2.below hh);(try replace EP:=EP.below hh);(try replace hp:=hp.below hh);replace hb:=bend hb hh;replace e2:=EachH.belowG e2 hh;clear p)
 | (go_at_call 40;(with_reducible refine (rtext_q hp.hr.qw (by decide) (by decide)).mono ?_);rintro e w_z ⟨rfl,hh⟩
    rw [wk13_w];(try replace a:=a.below hh);(try replace XQ:=XQ.below hh);(try replace LM2:=LM2.below hh);(try replace EP:=EP.below hh);(try replace hp:=hp.below hh);replace hb:=bend hb hh;replace e2:=EachH.belowG e2 hh)
 | (go_at_call 40;(with_reducible refine (rtext_q hp.hr.qy (by decide) (by decide)).mono ?_);rintro e w_z ⟨rfl,hh⟩
    rw [wk13_y];(try replace a:=a.below hh);(try replace XQ:=XQ.below hh);(try replace LM2:=LM2.below hh);(try replace EP:=EP.below hh);(try replace hp:=hp.below hh);replace hb:=bend hb hh;replace e2:=EachH.belowG e2 hh)
 | (go_at_call 30;(with_reducible refine (cgood_any LM2 e2.hr hM2 (by decide) (by decide) true hG1).mono ?_);rintro e w_z ⟨rfl,hh⟩
    (try replace a:=a.below hh);(try replace XQ:=XQ.below hh);(try replace LM2:=LM2.below hh);(try replace EP:=EP.below hh);(try replace hp:=hp.below hh);replace hb:=bend hb hh;replace e2:=EachH.belowG e2 hh)
 refine hK1.out _ _ (by with_reducible exact ⟨XQ.c0,XQ.c1,XQ.c2,XQ.c3,XQ.c4,XQ.c5,EP.c3,EP.c4,EP.c5,EP.c6,EP.c7,EP.c8⟩) (fun hHeld=>?_)
 clear hK1 K1
 refine wpAnyH_take (i:=23) (oi:=⟨some 58,.binOp BinOp.eql 9 (.tmp 57) (.const (Value.string {data:=#[50]})) 9,4, "law.go:37",#[⟨22,.data⟩,⟨17,.guard⟩],some (17,true)⟩) (v:=?_) rfl (by kernel_rfl) (by kernel_rfl) (by kernel_rfl) (fun _ _ _ h=>h) (Or.inl ⟨by rfl,?_⟩) hHeld ?_
 rotate_left
 · (intro w hSw;(try dsimp only at hSw);go_simp;try with_reducible rfl)
 simp only [Act.put,List.setIfInBounds_toArray,List.set_cons_zero,List.set_cons_succ]
 refine wpAnyH_take (i:=24) (oi:=⟨some 59,.pick (.tmp 52) (.tmp 58) (.const (Value.bool false)),4, "law.go:37",#[⟨17,.data⟩,⟨23,.data⟩],none⟩) (v:=?_) rfl (by kernel_rfl) (by kernel_rfl) (by kernel_rfl) (fun _ _ _ h=>h) (Or.inl ⟨by rfl,?_⟩) hHeld ?_
 rotate_left
 · (intro w hSw;(try dsimp only at hSw);go_simp;try with_reducible rfl)
 simp only [Act.put,List.setIfInBounds_toArray,List.set_cons_zero,List.set_cons_succ]
 refine wpAnyH_take (i:=25) (oi:=⟨some 60,.move (.tmp 59),4, "law.go:37",#[⟨24,.data⟩,⟨22,.chain⟩],none⟩) (v:=?_) rfl (by kernel_rfl) (by kernel_rfl) (by kernel_rfl) (fun _ _ _ h=>h) (Or.inl ⟨by rfl,?_⟩) hHeld ?_
 rotate_left
 · (intro w hSw;(try dsimp only at hSw);go_simp;try with_reducible rfl)
 simp only [Act.put,List.setIfInBounds_toArray,List.set_cons_zero,List.set_cons_succ]
 refine wpAnyH_take (i:=26) (oi:=⟨some 61,.move (.tmp 4),37, "law.go:37",#[⟨25,.guard⟩],some (25,true)⟩) (v:=?_) rfl (by kernel_rfl) (by kernel_rfl) (by kernel_rfl) (fun _ _ _ h=>h) (Or.inl ⟨by rfl,?_⟩) hHeld ?_
 rotate_left
 · (intro w hSw;(try dsimp only at hSw);go_simp;try with_reducible rfl)
 simp only [Act.put,List.setIfInBounds_toArray,List.set_cons_zero,List.set_cons_succ]
 refine wpAnyH_take (i:=27) (oi:=⟨some 62,.indexAddr 37 (.tmp 61) (.const (Value.int IntKind.i64 1)),0, "law.go:37",#[⟨26,.data⟩,⟨25,.guard⟩],some (25,true)⟩) (v:=?_) rfl (by kernel_rfl) (by kernel_rfl) (by kernel_rfl) (fun _ _ _ h=>h) (Or.inl ⟨by rfl,?_⟩) hHeld ?_
 rotate_left
 · (intro w hSw;(try dsimp only at hSw);go_simp;try with_reducible rfl)
 simp only [Act.put,List.setIfInBounds_toArray,List.set_cons_zero,List.set_cons_succ]
 refine wpAnyH_take (i:=28) (oi:=⟨some 63,.fieldAddr 73 (.tmp 62) 1,0, "law.go:37",#[⟨27,.data⟩,⟨25,.guard⟩],some (25,true)⟩) (v:=?_) rfl (by kernel_rfl) (by kernel_rfl) (by kernel_rfl) (fun _ _ _ h=>h) (Or.inl ⟨by rfl,?_⟩) hHeld ?_
 rotate_left
 · (intro w hSw;(try dsimp only at hSw);go_simp;try with_reducible rfl)
 simp only [Act.put,List.setIfInBounds_toArray,List.set_cons_zero,List.set_cons_succ]
 refine wpAnyH_take (i:=29) (oi:=⟨some 64,.load 26 (.tmp 63),26, "law.go:37",#[⟨28,.data⟩,⟨25,.guard⟩],some (25,true)⟩) (v:=?_) rfl (by kernel_rfl) (by kernel_rfl) (by kernel_rfl) (fun _ _ _ h=>h) (Or.inl ⟨by rfl,?_⟩) hHeld ?_
 rotate_left
 · (intro w hSw;(try dsimp only at hSw);go_simp;try with_reducible rfl)
 simp only [Act.put,List.setIfInBounds_toArray,List.set_cons_zero,List.set_cons_succ]
 refine wpAnyH_ready (rs:=[30]) (by kernel_rfl) (by simp) ?_
 refine AllReadyH.cons (o:=⟨some 65,.call ⟨.value (.func 40),#[.tmp 64],#[26]⟩,9, "law.go:37",#[⟨29,.data⟩,⟨25,.chain⟩,⟨25,.guard⟩],some (25,true)⟩) rfl (fun K1 hK1=>?_) AllReadyH.nil
 go_simp
 first
 | (go_at_call 38;(with_reducible refine (lawP 1 1 (by decide) (by decide) (by decide) (by decide) _).mono ?_);rintro e w_p ⟨s_p,A_p,n_p,c_p,B_p,m_p,d_p,t_p,E_p,i_p,e_p,F_p,j_p,f_p,rfl,p,hh⟩
    (try replace a:=a.below hh);(try replace XQ:=XQ.below hh);(try replace LM2:=LM2.below hh);(try replace EP:=EP.below hh);(try replace hp:=hp.below hh);replace hb:=bend hb hh;replace e2:=EachH.belowG e2 hh)
 | (go_at_call 32;(with_reducible refine (psame_p a.pr p.pr (by decide) (by decide) (by decide) (by decide) true wk13_at).mono ?_);rintro e w_z ⟨rfl,hh⟩
    (try replace a:=a.below hh);(try replace XQ:=XQ.below hh);(try replace LM2:=LM2.below hh);(try replace EP:=EP.below hh);(try replace hp:=hp.below hh);replace hb:=bend hb hh;replace e2:=EachH.belowG e2 hh;clear p)
 | (go_at_call 40;(with_reducible refine (rtext_q hp.hr.qw (by decide) (by decide)).mono ?_);rintro e w_z ⟨rfl,hh⟩
    rw [wk13_w];(try replace a:=a.below hh);(try replace XQ:=XQ.below hh);(try replace LM2:=LM2.below hh);(try replace EP:=EP.below hh);(try replace hp:=hp.below hh);replace hb:=bend hb hh;replace e2:=EachH.belowG e2 hh)
 | (go_at_call 40;(with_reducible refine (rtext_q hp.hr.qy (by decide) (by decide)).mono ?_);rintro e w_z ⟨rfl,hh⟩
    rw [wk13_y];(try replace a:=a.below hh);(try replace XQ:=XQ.below hh);(try replace LM2:=LM2.below hh);(try replace EP:=EP.below hh);(try replace hp:=hp.below hh);replace hb:=bend hb hh;replace e2:=EachH.belowG e2 hh)
 | (go_at_call 30;(with_reducible refine (cgood_any LM2 e2.hr hM2 (by decide) (by decide) true hG1).mono ?_);rintro e w_z ⟨rfl,hh⟩
    (try replace a:=a.below hh);(try replace XQ:=XQ.below hh);(try replace LM2:=LM2.below hh);(try replace EP:=EP.below hh);(try replace hp:=hp.below hh);replace hb:=bend hb hh;replace e2:=EachH.belowG e2 hh)
 refine hK1.out _ _ (by with_reducible exact ⟨XQ.c0,XQ.c1,XQ.c2,XQ.c3,XQ.c4,XQ.c5,EP.c3,EP.c4,EP.c5,EP.c6,EP.c7,EP.c8⟩) (fun hHeld=>?_)
 clear hK1 K1
 refine wpAnyH_take (i:=31) (oi:=⟨some 66,.binOp BinOp.eql 9 (.tmp 65) (.const (Value.string {data:=#[52]})) 9,4, "law.go:37",#[⟨30,.data⟩,⟨25,.guard⟩],some (25,true)⟩) (v:=?_) rfl (by kernel_rfl) (by kernel_rfl) (by kernel_rfl) (fun _ _ _ h=>h) (Or.inl ⟨by rfl,?_⟩) hHeld ?_
 rotate_left
 · (intro w hSw;(try dsimp only at hSw);go_simp;try with_reducible rfl)
 simp only [Act.put,List.setIfInBounds_toArray,List.set_cons_zero,List.set_cons_succ]
 refine wpAnyH_take (i:=32) (oi:=⟨some 67,.pick (.tmp 60) (.tmp 66) (.const (Value.bool false)),4, "law.go:37",#[⟨25,.data⟩,⟨31,.data⟩],none⟩) (v:=?_) rfl (by kernel_rfl) (by kernel_rfl) (by kernel_rfl) (fun _ _ _ h=>h) (Or.inl ⟨by rfl,?_⟩) hHeld ?_
 rotate_left
 · (intro w hSw;(try dsimp only at hSw);go_simp;try with_reducible rfl)
 simp only [Act.put,List.setIfInBounds_toArray,List.set_cons_zero,List.set_cons_succ]
 refine wpAnyH_take (i:=33) (oi:=⟨some 68,.move (.tmp 67),4, "law.go:37",#[⟨32,.data⟩,⟨30,.chain⟩],none⟩) (v:=?_) rfl (by kernel_rfl) (by kernel_rfl) (by kernel_rfl) (fun _ _ _ h=>h) (Or.inl ⟨by rfl,?_⟩) hHeld ?_
 rotate_left
 · (intro w hSw;(try dsimp only at hSw);go_simp;try with_reducible rfl)
 simp only [Act.put,List.setIfInBounds_toArray,List.set_cons_zero,List.set_cons_succ]
 refine wpAnyH_take (i:=34) (oi:=⟨some 69,.move (.tmp 7),38, "law.go:37",#[⟨33,.guard⟩],some (33,true)⟩) (v:=?_) rfl (by kernel_rfl) (by kernel_rfl) (by kernel_rfl) (fun _ _ _ h=>h) (Or.inl ⟨by rfl,?_⟩) hHeld ?_
 rotate_left
 · (intro w hSw;(try dsimp only at hSw);go_simp;try with_reducible rfl)
 simp only [Act.put,List.setIfInBounds_toArray,List.set_cons_zero,List.set_cons_succ]
 refine wpAnyH_take (i:=35) (oi:=⟨some 70,.binOp BinOp.eql 38 (.tmp 69) (.const (Value.int IntKind.i64 1)) 38,4, "law.go:37",#[⟨34,.data⟩,⟨33,.guard⟩],some (33,true)⟩) (v:=?_) rfl (by kernel_rfl) (by kernel_rfl) (by kernel_rfl) (fun _ _ _ h=>h) (Or.inl ⟨by rfl,?_⟩) hHeld ?_
 rotate_left
 · (intro w hSw;(try dsimp only at hSw);go_simp;try with_reducible rfl)
 simp only [Act.put,List.setIfInBounds_toArray,List.set_cons_zero,List.set_cons_succ]
 refine wpAnyH_take (i:=36) (oi:=⟨some 71,.pick (.tmp 68) (.tmp 70) (.const (Value.bool false)),4, "law.go:37",#[⟨33,.data⟩,⟨35,.data⟩],none⟩) (v:=?_) rfl (by kernel_rfl) (by kernel_rfl) (by kernel_rfl) (fun _ _ _ h=>h) (Or.inl ⟨by rfl,?_⟩) hHeld ?_
 rotate_left
 · (intro w hSw;(try dsimp only at hSw);go_simp;try with_reducible rfl)
 simp only [Act.put,List.setIfInBounds_toArray,List.set_cons_zero,List.set_cons_succ]
 refine wpAnyH_take (i:=37) (oi:=⟨some 72,.move (.tmp 71),4, "law.go:37",#[⟨36,.data⟩,⟨33,.chain⟩],none⟩) (v:=?_) rfl (by kernel_rfl) (by kernel_rfl) (by kernel_rfl) (fun _ _ _ h=>h) (Or.inl ⟨by rfl,?_⟩) hHeld ?_
 rotate_left
 · (intro w hSw;(try dsimp only at hSw);go_simp;try with_reducible rfl)
 simp only [Act.put,List.setIfInBounds_toArray,List.set_cons_zero,List.set_cons_succ]
 refine wpAnyH_take (i:=38) (oi:=⟨some 73,.move (.tmp 4),37, "law.go:37",#[⟨37,.guard⟩],some (37,true)⟩) (v:=?_) rfl (by kernel_rfl) (by kernel_rfl) (by kernel_rfl) (fun _ _ _ h=>h) (Or.inl ⟨by rfl,?_⟩) hHeld ?_
 rotate_left
 · (intro w hSw;(try dsimp only at hSw);go_simp;try with_reducible rfl)
 simp only [Act.put,List.setIfInBounds_toArray,List.set_cons_zero,List.set_cons_succ]
 refine wpAnyH_ready (rs:=[39]) (by kernel_rfl) (by simp) ?_
 refine AllReadyH.cons (o:=⟨some 74,.call ⟨.value (.func 30),#[.tmp 73],#[37]⟩,4, "law.go:37",#[⟨38,.data⟩,⟨37,.chain⟩,⟨37,.guard⟩],some (37,true)⟩) rfl (fun K1 hK1=>?_) AllReadyH.nil
 go_simp
 first
 | (go_at_call 38;(with_reducible refine (lawP 1 1 (by decide) (by decide) (by decide) (by decide) _).mono ?_);rintro e w_p ⟨s_p,A_p,n_p,c_p,B_p,m_p,d_p,t_p,E_p,i_p,e_p,F_p,j_p,f_p,rfl,p,hh⟩
    (try replace a:=a.below hh);(try replace XQ:=XQ.below hh);(try replace LM2:=LM2.below hh);(try replace EP:=EP.below hh);(try replace hp:=hp.below hh);replace hb:=bend hb hh;replace e2:=EachH.belowG e2 hh)
 | (go_at_call 32;(with_reducible refine (psame_p a.pr p.pr (by decide) (by decide) (by decide) (by decide) true wk13_at).mono ?_);rintro e w_z ⟨rfl,hh⟩
    (try replace a:=a.below hh);(try replace XQ:=XQ.below hh);(try replace LM2:=LM2.below hh);(try replace EP:=EP.below hh);(try replace hp:=hp.below hh);replace hb:=bend hb hh;replace e2:=EachH.belowG e2 hh;clear p)
 | (go_at_call 40;(with_reducible refine (rtext_q hp.hr.qw (by decide) (by decide)).mono ?_);rintro e w_z ⟨rfl,hh⟩
    rw [wk13_w];(try replace a:=a.below hh);(try replace XQ:=XQ.below hh);(try replace LM2:=LM2.below hh);(try replace EP:=EP.below hh);(try replace hp:=hp.below hh);replace hb:=bend hb hh;replace e2:=EachH.belowG e2 hh)
 | (go_at_call 40;(with_reducible refine (rtext_q hp.hr.qy (by decide) (by decide)).mono ?_);rintro e w_z ⟨rfl,hh⟩
    rw [wk13_y];(try replace a:=a.below hh);(try replace XQ:=XQ.below hh);(try replace LM2:=LM2.below hh);(try replace EP:=EP.below hh);(try replace hp:=hp.below hh);replace hb:=bend hb hh;replace e2:=EachH.belowG e2 hh)
 | (go_at_call 30;(with_reducible refine (cgood_any LM2 e2.hr hM2 (by decide) (by decide) true hG1).mono ?_);rintro e w_z ⟨rfl,hh⟩
    (try replace a:=a.below hh);(try replace XQ:=XQ.below hh);(try replace LM2:=LM2.below hh);(try replace EP:=EP.below hh);(try replace hp:=hp.below hh);replace hb:=bend hb hh;replace e2:=EachH.belowG e2 hh)
 refine hK1.out _ _ (by with_reducible exact ⟨XQ.c0,XQ.c1,XQ.c2,XQ.c3,XQ.c4,XQ.c5,EP.c3,EP.c4,EP.c5,EP.c6,EP.c7,EP.c8⟩) (fun hHeld=>?_)
 clear hK1 K1
 refine wpAnyH_take (i:=40) (oi:=⟨some 75,.pick (.tmp 72) (.tmp 74) (.const (Value.bool false)),4, "law.go:37",#[⟨37,.data⟩,⟨39,.data⟩],none⟩) (v:=?_) rfl (by kernel_rfl) (by kernel_rfl) (by kernel_rfl) (fun _ _ _ h=>h) (Or.inl ⟨by rfl,?_⟩) hHeld ?_
 rotate_left
 · (intro w hSw;(try dsimp only at hSw);go_simp;try with_reducible rfl)
 simp only [Act.put,List.setIfInBounds_toArray,List.set_cons_zero,List.set_cons_succ]
 refine wpAnyH_take (i:=41) (oi:=⟨some 0,.assign (.tmp 75),4, "law.go:37",#[⟨40,.data⟩,⟨39,.chain⟩,⟨0,.phase⟩,⟨1,.phase⟩,⟨2,.phase⟩,⟨3,.phase⟩,⟨4,.phase⟩,⟨5,.phase⟩,⟨6,.phase⟩,⟨7,.phase⟩,⟨8,.phase⟩,⟨9,.phase⟩,⟨10,.phase⟩,⟨11,.phase⟩,⟨12,.phase⟩,⟨13,.phase⟩,⟨14,.phase⟩,⟨15,.phase⟩,⟨16,.phase⟩,⟨17,.phase⟩,⟨18,.phase⟩,⟨19,.phase⟩,⟨20,.phase⟩,⟨21,.phase⟩,⟨22,.phase⟩,⟨23,.phase⟩,⟨24,.phase⟩,⟨25,.phase⟩,⟨26,.phase⟩,⟨27,.phase⟩,⟨28,.phase⟩,⟨29,.phase⟩,⟨30,.phase⟩,⟨31,.phase⟩,⟨32,.phase⟩,⟨33,.phase⟩,⟨34,.phase⟩,⟨35,.phase⟩,⟨36,.phase⟩,⟨37,.phase⟩,⟨38,.phase⟩,⟨39,.phase⟩,⟨40,.phase⟩],none⟩) (v:=?_) rfl (by kernel_rfl) (by kernel_rfl) (by kernel_rfl) (fun _ _ _ h=>h) (Or.inl ⟨by rfl,?_⟩) hHeld ?_
 rotate_left
 · (intro w hSw;(try dsimp only at hSw);go_simp;try with_reducible rfl)
 simp only [Act.put,List.setIfInBounds_toArray,List.set_cons_zero]
 refine wpAnyH_done (by kernel_rfl) ?_ _
 go_wp2_with fail
 go_ret;exact ⟨rfl,hb⟩
end
section
open Go Go.RowKit
attribute [local go_sem ↓] open_LVH open_STH open_LVJ open_STJ
theorem GivesPtE.more {x y:Rat} {k k1:Nat} {en:Ending} {w':World} (h:GivesPtE w x y k en w') (hk:k≤k1):GivesPtE w x y k1 en w':=by
 obtain ⟨s,A,n,c,B,m,d,t,E,i,e,F,j,f,h1,h2,h3⟩:=h
 exact ⟨s,A,n,c,B,m,d,t,E,i,e,F,j,f,h1,h2.more hk,h3⟩
theorem kRow_cap {k t n N:Nat} (hn:n≤N) {B:Nat} (hB:kRow k t N+(1+kRow k t N)≤B):kRow k t n+(1+kRow k t n)≤B:=by
 have:=kRow_le (k:=k) (t:=t) hn
 omega
theorem cat_any {A A1 A2:Option Addr} {n c n1 c1 n2 c2 k kt B:Nat} {s:Bool} {L:List HV} {V:List AH} {vt:Rat} (hL:SV w A (hvs L)) (hE:EachH HR w L V k) (hn:L.length=n) (q:QR w s A1 n1 c1 A2 n2 c2 vt kt) (hk:kRow k kt 3≤10000) (ht:kt≤1000) (h1:1≤k) (h2:1≤kt) (hG:GoodH V) (h0:0≤vt∧vt≤1) (hB:kRow k kt 3+(1+kRow k kt 3)≤B) :
 Calls Tryz.prog 21 #[.slice A n c,.agg #[.bool s,.slice A1 n1 c1,.slice A2 n2 c2]] w (GivesPtE w (bez vt V).px (bez vt V).py B):=by
 have hn4:n - 1≤3:=by have:=hG.1;rw [← hn,hE.1];omega
 have hk2:=Nat.le_trans (kRow_le (k:=k) (t:=kt) hn4) hk
 rcases cvsgn_nn h0.1 with e | e
 · exact (cat_p0 hL hE hn q hk2 ht h1 h2 hG h0.1 h0.2 e).mono fun _ _ h=>h.more (kRow_cap hn4 hB)
 · exact (cat_p1 hL hE hn q hk2 ht h1 h2 hG h0.1 h0.2 e).mono fun _ _ h=>h.more (kRow_cap hn4 hB)
theorem fair13_t {A:Option Addr} {n c:Nat} {L:List HV} (hL:SV w A (hvs L)) (hn:L.length=n) (hm:n≤maxLen) (h:(∀ p ∈ L,p.small 4)∧n≤6):Calls Tryz.prog 17 #[.slice A n c] w fun e w'=>e=.returned (.bool true)∧Below w.heap.size w w':=fair13 hL hn hm true ⟨fun _=>h,fun _=>rfl⟩
theorem fair13_f {A:Option Addr} {n c:Nat} {L:List HV} (hL:SV w A (hvs L)) (hn:L.length=n) (hm:n≤maxLen) (h:¬ ((∀ p ∈ L,p.small 4)∧n≤6)):Calls Tryz.prog 17 #[.slice A n c] w fun e w'=>e=.returned (.bool false)∧Below w.heap.size w w':=fair13 hL hn hm false ⟨fun e=>by (cases e),fun e=>absurd e h⟩
theorem rgood13_t {A:Option Addr} {n c k:Nat} {L:List HV} {V:List AH} (hL:SV w A (hvs L)) (hE:EachH RH w L V k) (hn:L.length=n) (hm:n≤1000) (h:GoodH V):Calls Tryz.prog 22 #[.slice A n c] w fun e w'=>e=.returned (.bool true)∧Below w.heap.size w w':=rgood13 hL hE hn hm true ⟨fun _=>h,fun _=>rfl⟩
theorem rgood13_f {A:Option Addr} {n c k:Nat} {L:List HV} {V:List AH} (hL:SV w A (hvs L)) (hE:EachH RH w L V k) (hn:L.length=n) (hm:n≤1000) (h:¬ GoodH V):Calls Tryz.prog 22 #[.slice A n c] w fun e w'=>e=.returned (.bool false)∧Below w.heap.size w w':=rgood13 hL hE hn hm false ⟨fun e=>by (cases e),fun e=>absurd e h⟩
theorem div_255 (k:Nat) (h:k≤255):0≤Rat.divInt (k:Int) 255∧Rat.divInt (k:Int) 255≤1:=by
 have key:∀ i:Fin 256,0≤Rat.divInt (i.val:Int) 255∧Rat.divInt (i.val:Int) 255≤1:=by decide +kernel
 exact key ⟨k,by omega⟩
end
end Go.Proofs.YtananlhdmekmjaaGreat
