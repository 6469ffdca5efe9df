/- CurveMaps: part 15. -/
import Derived.Lib.SmallJoins
import Derived.OpenShut
import Derived.Test.YtananlhdmekmjaaGreatKCurveMaps0
import Derived.Test.YtananlhdmekmjaaGreatKCurveMaps10
import Derived.Test.YtananlhdmekmjaaGreatKCurveMaps11
import Derived.Test.YtananlhdmekmjaaGreatKCurveMaps14
set_option linter.unusedVariables false
set_option maxRecDepth 100000
set_option maxHeartbeats 16000000
variable {w:Go.World}
variable {s_p t_p:Bool} {A_p B_p E_p F_p:Option Go.Addr} {n_p c_p m_p d_p i_p e_p j_p f_p:Nat}
namespace Go.Proofs.YtananlhdmekmjaaGreat
section
open Go Go.RowKit
attribute [local go_sem ↓] open_LVM open_STM open_LVN open_STN
attribute [local go_sem ↓] open_LVH open_STH open_LVJ open_STJ
instance (V:List AH):Decidable (GoodH V):=by unfold GoodH;exact inferInstance
abbrev wkV0:List AH:=(quadH [(Rat.divInt 0 1,Rat.divInt 0 1),(Rat.divInt 1 1,Rat.divInt 2 1),(Rat.divInt 2 1,Rat.divInt 0 1)])
abbrev wkU:SV8:=(⟨5,64,128,128,0,0,0,128⟩:SV8)
abbrev wkV1:List AH:=(ofL AM.one (Rat.divInt 0 1) (Rat.divInt 0 1) (⟨5,64,128,128,0,0,0,128⟩:SV8) 2)
theorem wk13_good:GoodH wkV0:=by decide +kernel
theorem wk13_good1:GoodH wkV1:=by decide +kernel
theorem wk13_t0:0≤Rat.divInt 1 2:=by decide +kernel
theorem wk13_t1:Rat.divInt 1 2≤1:=by decide +kernel
theorem wk13_ts:sgnQ (Rat.divInt 1 2)=1:=by decide +kernel
theorem wk13_us:sgnQ (Rat.divInt 3 2)=1:=by decide +kernel
theorem wk13_u1:1 < Rat.divInt 3 2:=by decide +kernel
theorem wk13_at:decide ((bez (Rat.divInt 1 2) wkV0).px=Rat.divInt 1 1∧(bez (Rat.divInt 1 2) wkV0).py=Rat.divInt 1 1)=true:=by decide +kernel
theorem wk13_w:(⟨(qtxt (ofA AM.one wkU 0).w).toArray⟩:ByteArray)=⟨#[50]⟩:=by
 rw [qtxt_i (a:=2) (by decide +kernel) (by decide +kernel) (txt_one (d:=2) (by decide) (by decide) rfl)];rfl
theorem wk13_y:(⟨(qtxt (ofA AM.one wkU 0).y).toArray⟩:ByteArray)=⟨#[52]⟩:=by
 rw [qtxt_i (a:=4) (by decide +kernel) (by decide +kernel) (txt_one (d:=4) (by decide) (by decide) rfl)];rfl
theorem wk13_in:wkU.In:=⟨by unfold i64In;decide,fun i=>by
 match i with
 | 0=>show i64In 64;unfold i64In;decide
 | 1=>show i64In 128;unfold i64In;decide
 | 2=>show i64In 128;unfold i64In;decide
 | 3=>show i64In 0;unfold i64In;decide
 | 4=>show i64In 0;unfold i64In;decide
 | i+5=>show i64In 0;unfold i64In;decide,by unfold i64In;decide⟩
theorem wk_of {m:MV} (p:PG w s_p A_p n_p c_p B_p m_p d_p t_p E_p i_p e_p F_p j_p f_p (Rat.divInt 0 1) (Rat.divInt 0 1) 1) (M:MG w m AM.one 1 1) :
 Calls Tryz.prog 11 #[.agg #[.bool s_p,.slice A_p n_p c_p,.slice B_p m_p d_p,.bool t_p,.slice E_p i_p e_p,.slice F_p j_p f_p],.agg #[.int .i64 5,.int .i64 64,.int .i64 128,.int .i64 128,.int .i64 0,.int .i64 0,.int .i64 0,.int .i64 128],.agg #[.bool m.a.s,.slice m.a.A m.a.n m.a.c,.slice m.a.B m.a.m m.a.d,.bool m.b.s,.slice m.b.A m.b.n m.b.c,.slice m.b.B m.b.m m.b.d,.bool m.c.s,.slice m.c.A m.c.n m.c.c,.slice m.c.B m.c.m m.c.d,.bool m.d.s,.slice m.d.A m.d.n m.d.c,.slice m.d.B m.d.m m.d.d,.bool m.e.s,.slice m.e.A m.e.n m.e.c,.slice m.e.B m.e.m m.e.d,.bool m.f.s,.slice m.f.A m.f.n m.f.c,.slice m.f.B m.f.m m.f.d]] w (GivesHsE w wkV1 8) :=
 cof_5 (u:=wkU) p.pr M.mr wk13_in (by decide) (by decide) (by decide) (by decide) (by decide) 2 rfl (by decide) rfl (by decide)
theorem wakes13_any (w:World):Calls Tryz.prog 10 #[] w fun e w'=>e=.returned (.bool true)∧Below w.heap.size w w':=by
 have hb:Below w.heap.size w w:=Below.refl _ _
 go_enter Tryz.func10,Tryz.ntmps10
 go_upto_region 3 with (first
  | (go_at_call 38;(with_reducible refine (lawP 0 0 (by decide) (by decide) (by decide) (by decide) _).mono ?_);rintro e w_p ⟨s_p,A_p,n_p,c_p,B_p,m_p,d_p,t_p,E_p,i_p,e_p,F_p,j_p,f_p,rfl,p,hh⟩
     replace hb:=bend hb hh)
  | (go_at_call 38;(with_reducible refine (lawP 1 2 (by decide) (by decide) (by decide) (by decide) _).mono ?_);rintro e w_q ⟨s_q,A_q,n_q,c_q,B_q,m_q,d_q,t_q,E_q,i_q,e_q,F_q,j_q,f_q,rfl,q,hh⟩
     (try replace p:=p.below hh);replace hb:=bend hb hh)
  | (go_at_call 38;(with_reducible refine (lawP 2 0 (by decide) (by decide) (by decide) (by decide) _).mono ?_);rintro e w_r ⟨s_r,A_r,n_r,c_r,B_r,m_r,d_r,t_r,E_r,i_r,e_r,F_r,j_r,f_r,rfl,r,hh⟩
     (try replace p:=p.below hh);(try replace q:=q.below hh);replace hb:=bend hb hh)
  | (go_at_call 39;(with_reducible refine (cquad p q r (by decide)).mono ?_);rintro e w_u ⟨v1,M1,rfl,l1,e1,hh⟩
     replace hb:=bend hb hh
     obtain ⟨A_x,c_x,rfl,_,_⟩:=l1.form
     have hM1:M1.length=3:=e1.1
     rw [hM1] at l1 ⊢
     have LM1:=l1.sv)
  | (go_at_call 31;(with_reducible refine (rof_q 1 2 (by decide) (by decide) (by decide) (by decide) (by decide) _).mono ?_);rintro e w_h ⟨s_h,A_h,n_h,c_h,B_h,m_h,d_h,rfl,h,hh⟩
     (try replace LM1:=LM1.below hh);replace hb:=bend hb hh;replace e1:=EachH.belowG e1 hh)
  | (go_at_call 21;(with_reducible refine (cat_p1 (n:=3) LM1 e1.hr hM1 h.qr (by decide) (by decide) (by decide) (by decide) wk13_good wk13_t0 wk13_t1 wk13_ts).mono ?_);rintro e w_a ⟨s_a,A_a,n_a,c_a,B_a,m_a,d_a,t_a,E_a,i_a,e_a,F_a,j_a,f_a,rfl,a,hh⟩
     replace hb:=bend hb hh))
 clear p q r LM1 l1 e1 h
 have XQ:=B6.new' w_a (Value.bool s_a) (Value.slice A_a n_a c_a) (Value.slice B_a m_a d_a) (Value.bool t_a) (Value.slice E_a i_a e_a) (Value.slice F_a j_a f_a) w_a.heap.size rfl
 have hh:Below w_a.heap.size w_a (w_a.alloc (Obj.cells #[Value.bool s_a,Value.slice A_a n_a c_a,Value.slice B_a m_a d_a,Value.bool t_a,Value.slice E_a i_a e_a,Value.slice F_a j_a f_a] 28)):=(Below.refl w_a.heap.size w_a).alloc (Nat.le_refl _) _
 generalize (w_a.alloc (Obj.cells #[Value.bool s_a,Value.slice A_a n_a c_a,Value.slice B_a m_a d_a,Value.bool t_a,Value.slice E_a i_a e_a,Value.slice F_a j_a f_a] 28))=W2 at *
 replace a:=a.below hh;replace hb:=bend hb hh;clear hh
 have hcO:Hid True:=trivial
 go_upto_region 4 with (first
  | (go_at_call 38;(with_reducible refine (lawP 0 0 (by decide) (by decide) (by decide) (by decide) _).mono ?_);rintro e w_p ⟨s_p,A_p,n_p,c_p,B_p,m_p,d_p,t_p,E_p,i_p,e_p,F_p,j_p,f_p,rfl,p,hh⟩
     (try replace a:=a.below hh);(try replace XQ:=XQ.below hh);replace hb:=bend hb hh)
  | (go_at_call 33;(with_reducible refine (mone_p _).mono ?_);rintro e w_m ⟨m,rfl,mh,hh⟩
     (try replace a:=a.below hh);(try replace XQ:=XQ.below hh);(try replace p:=p.below hh);replace hb:=bend hb hh)
  | (go_at_call 11;(with_reducible refine (wk_of p mh).mono ?_);rintro e w_l ⟨v2,M2,rfl,l2,e2,hh⟩
     (try replace a:=a.below hh);(try replace XQ:=XQ.below hh);replace hb:=bend hb hh
     obtain ⟨A_y,c_y,rfl,_,_⟩:=l2.form
     have hM2:M2.length=3:=e2.1
     rw [hM2] at l2 ⊢
     have LM2:=l2.sv;clear p mh))
 go_upto_region 5 with (first
  | (go_at_call 31;(with_reducible refine (rof_q 3 2 (by decide) (by decide) (by decide) (by decide) (by decide) _).mono ?_);rintro e w_h ⟨s_h,A_h,n_h,c_h,B_h,m_h,d_h,rfl,h,hh⟩
     (try replace LM2:=LM2.below hh);(try replace a:=a.below hh);(try replace XQ:=XQ.below hh);replace hb:=bend hb hh;replace e2:=EachH.belowG e2 hh)
  | (go_at_call 21;(with_reducible refine (cat_g1 (n:=3) LM2 e2.hr hM2 h.qr (by decide) (by decide) (by decide) (by decide) ⟨fun _=>wk13_good1,fun _=>rfl⟩ wk13_us wk13_u1).mono ?_);rintro e w_b ⟨rfl,hh⟩
     (try replace LM2:=LM2.below hh);(try replace a:=a.below hh);(try replace XQ:=XQ.below hh);replace hb:=bend hb hh;replace e2:=EachH.belowG e2 hh;clear h))
 clear l2
 have XU:=B6.new' w_b (Value.bool false) (Value.slice none 0 0) (Value.slice none 0 0) (Value.bool false) (Value.slice none 0 0) (Value.slice none 0 0) w_b.heap.size rfl
 have hh:Below w_b.heap.size w_b (w_b.alloc (Obj.cells #[Value.bool false,Value.slice none 0 0,Value.slice none 0 0,Value.bool false,Value.slice none 0 0,Value.slice none 0 0] 28)):=(Below.refl w_b.heap.size w_b).alloc (Nat.le_refl _) _
 generalize (w_b.alloc (Obj.cells #[Value.bool false,Value.slice none 0 0,Value.slice none 0 0,Value.bool false,Value.slice none 0 0,Value.slice none 0 0] 28))=W4 at *
 replace a:=a.below hh;replace XQ:=XQ.below hh;replace LM2:=LM2.below hh;replace e2:=EachH.belowG e2 hh;replace hb:=bend hb hh;clear hh
 obtain ⟨P,u,hP,hu,hp⟩:=e2.at_ (i:=1) (by rw [hM2];decide)
 obtain rfl:ofA AM.one wkU 0=u:=by
  have:=hu
  simp [ofL] at this
  exact this
 obtain ⟨g0,o0,hix0,EP,_⟩:=LM2.ht hP
 have hixa:∀ (c:Nat) (w':World),(Instr.indexAt 37 (.slice A_y 3 c) (.int .i64 1)).run Tryz.prog w'=.ok (.pointer (some ⟨g0,o0,none⟩)) w':=fun c w'=>hix0 3 c w' (by decide)
 have hG1:true=true ↔ GoodH wkV1:=⟨fun _=>wk13_good1,fun _=>rfl⟩
 clear hu hP hix0 XU
 replace a:=a.below (Below.refl _ _).drew
 replace XQ:=XQ.below (Below.refl _ _).drew
 replace LM2:=LM2.below (Below.refl _ _).drew
 replace EP:=EP.below (Below.refl _ _).drew
 replace hp:=hp.below (Below.refl _ _).drew
 replace hb:=hb.drew
 replace e2:=EachH.belowG e2 (Below.refl _ _).drew
 refine wp_region_held_drew (S:=(fun w'=>w'.cell? ⟨w_a.heap.size,0,none⟩=some (.bool s_a)∧w'.cell? ⟨w_a.heap.size,1,none⟩=some (.slice A_a n_a c_a)∧w'.cell? ⟨w_a.heap.size,2,none⟩=some (.slice B_a m_a d_a)∧w'.cell? ⟨w_a.heap.size,3,none⟩=some (.bool t_a)∧w'.cell? ⟨w_a.heap.size,4,none⟩=some (.slice E_a i_a e_a)∧w'.cell? ⟨w_a.heap.size,5,none⟩=some (.slice F_a j_a f_a)∧w'.cell? ⟨g0,o0+3,none⟩=some (.bool P.y.s)∧w'.cell? ⟨g0,o0+4,none⟩=some (.slice P.y.A P.y.n P.y.c)∧w'.cell? ⟨g0,o0+5,none⟩=some (.slice P.y.B P.y.m P.y.d)∧w'.cell? ⟨g0,o0+6,none⟩=some (.bool P.w.s)∧w'.cell? ⟨g0,o0+7,none⟩=some (.slice P.w.A P.w.n P.w.c)∧w'.cell? ⟨g0,o0+8,none⟩=some (.slice P.w.B P.w.m P.w.d))) (by kernel_rfl) (by with_reducible exact ⟨XQ.c0,XQ.c1,XQ.c2,XQ.c3,XQ.c4,XQ.c5,EP.c3,EP.c4,EP.c5,EP.c6,EP.c7,EP.c8⟩) (fun hHeld=>?_)
 refine wpAnyH_take (i:=0) (oi:=⟨some 35,.move (.tmp 3),38, "law.go:37",#[],none⟩) (v:=?_) rfl (by kernel_rfl) (by kernel_rfl) (by kernel_rfl) (fun _ _ _ h=>h) (Or.inl ⟨by rfl,?_⟩) hHeld ?_
 rotate_left
 · (intro w hSw;(try dsimp only at hSw);go_simp;try with_reducible rfl)
 simp only [Act.put,List.setIfInBounds_toArray,List.set_cons_zero,List.set_cons_succ]
 refine wpAnyH_take (i:=1) (oi:=⟨some 36,.binOp BinOp.eql 38 (.tmp 35) (.const (Value.int IntKind.i64 0)) 38,4, "law.go:37",#[⟨0,.data⟩],none⟩) (v:=?_) rfl (by kernel_rfl) (by kernel_rfl) (by kernel_rfl) (fun _ _ _ h=>h) (Or.inl ⟨by rfl,?_⟩) hHeld ?_
 rotate_left
 · (intro w hSw;(try dsimp only at hSw);go_simp;try with_reducible rfl)
 simp only [Act.put,List.setIfInBounds_toArray,List.set_cons_zero,List.set_cons_succ]
 refine wpAnyH_take (i:=2) (oi:=⟨some 37,.move (.tmp 36),4, "law.go:37",#[⟨1,.data⟩],none⟩) (v:=?_) rfl (by kernel_rfl) (by kernel_rfl) (by kernel_rfl) (fun _ _ _ h=>h) (Or.inl ⟨by rfl,?_⟩) hHeld ?_
 rotate_left
 · (intro w hSw;(try dsimp only at hSw);go_simp;try with_reducible rfl)
 simp only [Act.put,List.setIfInBounds_toArray,List.set_cons_zero,List.set_cons_succ]
 refine wpAnyH_take (i:=3) (oi:=⟨some 38,.load 28 (.tmp 2),28, "law.go:37",#[⟨2,.guard⟩],some (2,true)⟩) (v:=?_) rfl (by kernel_rfl) (by kernel_rfl) (by kernel_rfl) (fun _ _ _ h=>h) (Or.inl ⟨by rfl,?_⟩) hHeld ?_
 rotate_left
 · (intro w hSw;(try dsimp only at hSw);go_simp;try with_reducible rfl)
 simp only [Act.put,List.setIfInBounds_toArray,List.set_cons_zero,List.set_cons_succ]
 refine wpAnyH_take (i:=4) (oi:=⟨some 39,.move (.tmp 1),87, "law.go:37",#[⟨2,.guard⟩],some (2,true)⟩) (v:=?_) rfl (by kernel_rfl) (by kernel_rfl) (by kernel_rfl) (fun _ _ _ h=>h) (Or.inl ⟨by rfl,?_⟩) hHeld ?_
 rotate_left
 · (intro w hSw;(try dsimp only at hSw);go_simp;try with_reducible rfl)
 simp only [Act.put,List.setIfInBounds_toArray,List.set_cons_zero,List.set_cons_succ]
 refine wpAnyH_ready (rs:=[5]) (by kernel_rfl) (by simp) ?_
 refine AllReadyH.cons (o:=⟨some 40,.call ⟨.value (.tmp 39),#[.const (Value.int IntKind.i64 1),.const (Value.int IntKind.i64 1)],#[2,2]⟩,28, "law.go:37",#[⟨4,.data⟩,⟨2,.chain⟩,⟨2,.guard⟩],some (2,true)⟩) rfl (fun K1 hK1=>?_) AllReadyH.nil
 go_simp
 first
 | (go_at_call 38;(with_reducible refine (lawP 1 1 (by decide) (by decide) (by decide) (by decide) _).mono ?_);rintro e w_p ⟨s_p,A_p,n_p,c_p,B_p,m_p,d_p,t_p,E_p,i_p,e_p,F_p,j_p,f_p,rfl,p,hh⟩
    (try replace a:=a.below hh);(try replace XQ:=XQ.below hh);(try replace LM2:=LM2.below hh);(try replace EP:=EP.below hh);(try replace hp:=hp.below hh);replace hb:=bend hb hh;replace e2:=EachH.belowG e2 hh)
 | (go_at_call 32;(with_reducible refine (psame_p a.pr p.pr (by decide) (by decide) (by decide) (by decide) true wk13_at).mono ?_);rintro e w_z ⟨rfl,hh⟩
    (try replace a:=a.below hh);(try replace XQ:=XQ.below hh);(try replace LM2:=LM2.below hh);(try replace EP:=EP.below hh);(try replace hp:=hp.below hh);replace hb:=bend hb hh;replace e2:=EachH.belowG e2 hh;clear p)
 | (go_at_call 40;(with_reducible refine (rtext_q hp.hr.qw (by decide) (by decide)).mono ?_);rintro e w_z ⟨rfl,hh⟩
    rw [wk13_w];(try replace a:=a.below hh);(try replace XQ:=XQ.below hh);(try replace LM2:=LM2.below hh);(try replace EP:=EP.below hh);(try replace hp:=hp.below hh);replace hb:=bend hb hh;replace e2:=EachH.belowG e2 hh)
 | (go_at_call 40;(with_reducible refine (rtext_q hp.hr.qy (by decide) (by decide)).mono ?_);rintro e w_z ⟨rfl,hh⟩
    rw [wk13_y];(try replace a:=a.below hh);(try replace XQ:=XQ.below hh);(try replace LM2:=LM2.below hh);(try replace EP:=EP.below hh);(try replace hp:=hp.below hh);replace hb:=bend hb hh;replace e2:=EachH.belowG e2 hh)
 | (go_at_call 30;(with_reducible refine (cgood_any LM2 e2.hr hM2 (by decide) (by decide) true hG1).mono ?_);rintro e w_z ⟨rfl,hh⟩
    (try replace a:=a.below hh);(try replace XQ:=XQ.below hh);(try replace LM2:=LM2.below hh);(try replace EP:=EP.below hh);(try replace hp:=hp.below hh);replace hb:=bend hb hh;replace e2:=EachH.belowG e2 hh)
 refine hK1.out _ _ (by with_reducible exact ⟨XQ.c0,XQ.c1,XQ.c2,XQ.c3,XQ.c4,XQ.c5,EP.c3,EP.c4,EP.c5,EP.c6,EP.c7,EP.c8⟩) (fun hHeld=>?_)
 clear hK1 K1
 refine wpAnyH_ready (rs:=[6]) (by kernel_rfl) (by simp) ?_
 refine AllReadyH.cons (o:=⟨some 41,.call ⟨.value (.func 32),#[.tmp 38,.tmp 40],#[28,28]⟩,4, "law.go:37",#[⟨3,.data⟩,⟨5,.data⟩,⟨5,.chain⟩,⟨2,.guard⟩],some (2,true)⟩) rfl (fun K1 hK1=>?_) AllReadyH.nil
 go_simp
 first
 | (go_at_call 38;(with_reducible refine (lawP 1 1 (by decide) (by decide) (by decide) (by decide) _).mono ?_);rintro e w_p ⟨s_p,A_p,n_p,c_p,B_p,m_p,d_p,t_p,E_p,i_p,e_p,F_p,j_p,f_p,rfl,p,hh⟩
    (try replace a:=a.below hh);(try replace XQ:=XQ.below hh);(try replace LM2:=LM2.below hh);(try replace EP:=EP.below hh);(try replace hp:=hp.below hh);replace hb:=bend hb hh;replace e2:=EachH.belowG e2 hh)
 | (go_at_call 32;(with_reducible refine (psame_p a.pr p.pr (by decide) (by decide) (by decide) (by decide) true wk13_at).mono ?_);rintro e w_z ⟨rfl,hh⟩
    (try replace a:=a.below hh);(try replace XQ:=XQ.below hh);(try replace LM2:=LM2.below hh);(try replace EP:=EP.below hh);(try replace hp:=hp.below hh);replace hb:=bend hb hh;replace e2:=EachH.belowG e2 hh;clear p)
 | (go_at_call 40;(with_reducible refine (rtext_q hp.hr.qw (by decide) (by decide)).mono ?_);rintro e w_z ⟨rfl,hh⟩
    rw [wk13_w];(try replace a:=a.below hh);(try replace XQ:=XQ.below hh);(try replace LM2:=LM2.below hh);(try replace EP:=EP.below hh);(try replace hp:=hp.below hh);replace hb:=bend hb hh;replace e2:=EachH.belowG e2 hh)
 | (go_at_call 40;(with_reducible refine (rtext_q hp.hr.qy (by decide) (by decide)).mono ?_);rintro e w_z ⟨rfl,hh⟩
    rw [wk13_y];(try replace a:=a.below hh);(try replace XQ:=XQ.below hh);(try replace LM2:=LM2.below hh);(try replace EP:=EP.below hh);(try replace hp:=hp.below hh);replace hb:=bend hb hh;replace e2:=EachH.belowG e2 hh)
 | (go_at_call 30;(with_reducible refine (cgood_any LM2 e2.hr hM2 (by decide) (by decide) true hG1).mono ?_);rintro e w_z ⟨rfl,hh⟩
    (try replace a:=a.below hh);(try replace XQ:=XQ.below hh);(try replace LM2:=LM2.below hh);(try replace EP:=EP.below hh);(try replace hp:=hp.below hh);replace hb:=bend hb hh;replace e2:=EachH.belowG e2 hh)
 refine hK1.out _ _ (by with_reducible exact ⟨XQ.c0,XQ.c1,XQ.c2,XQ.c3,XQ.c4,XQ.c5,EP.c3,EP.c4,EP.c5,EP.c6,EP.c7,EP.c8⟩) (fun hHeld=>?_)
 clear hK1 K1
 refine wpAnyH_take (i:=7) (oi:=⟨some 42,.pick (.tmp 37) (.tmp 41) (.const (Value.bool false)),4, "law.go:37",#[⟨2,.data⟩,⟨6,.data⟩],none⟩) (v:=?_) rfl (by kernel_rfl) (by kernel_rfl) (by kernel_rfl) (fun _ _ _ h=>h) (Or.inl ⟨by rfl,?_⟩) hHeld ?_
 rotate_left
 · (intro w hSw;(try dsimp only at hSw);go_simp;try with_reducible rfl)
 simp only [Act.put,List.setIfInBounds_toArray,List.set_cons_zero,List.set_cons_succ]
 refine wpAnyH_take (i:=8) (oi:=⟨some 43,.move (.tmp 42),4, "law.go:37",#[⟨7,.data⟩,⟨6,.chain⟩],none⟩) (v:=?_) rfl (by kernel_rfl) (by kernel_rfl) (by kernel_rfl) (fun _ _ _ h=>h) (Or.inl ⟨by rfl,?_⟩) hHeld ?_
 rotate_left
 · (intro w hSw;(try dsimp only at hSw);go_simp;try with_reducible rfl)
 simp only [Act.put,List.setIfInBounds_toArray,List.set_cons_zero,List.set_cons_succ]
 refine wpAnyH_take (i:=9) (oi:=⟨some 44,.move (.tmp 5),38, "law.go:37",#[⟨8,.guard⟩],some (8,true)⟩) (v:=?_) rfl (by kernel_rfl) (by kernel_rfl) (by kernel_rfl) (fun _ _ _ h=>h) (Or.inl ⟨by rfl,?_⟩) hHeld ?_
 rotate_left
 · (intro w hSw;(try dsimp only at hSw);go_simp;try with_reducible rfl)
 simp only [Act.put,List.setIfInBounds_toArray,List.set_cons_zero,List.set_cons_succ]
 refine wpAnyH_take (i:=10) (oi:=⟨some 45,.binOp BinOp.eql 38 (.tmp 44) (.const (Value.int IntKind.i64 0)) 38,4, "law.go:37",#[⟨9,.data⟩,⟨8,.guard⟩],some (8,true)⟩) (v:=?_) rfl (by kernel_rfl) (by kernel_rfl) (by kernel_rfl) (fun _ _ _ h=>h) (Or.inl ⟨by rfl,?_⟩) hHeld ?_
 rotate_left
 · (intro w hSw;(try dsimp only at hSw);go_simp;try with_reducible rfl)
 simp only [Act.put,List.setIfInBounds_toArray,List.set_cons_zero,List.set_cons_succ]
 refine wpAnyH_take (i:=11) (oi:=⟨some 46,.pick (.tmp 43) (.tmp 45) (.const (Value.bool false)),4, "law.go:37",#[⟨8,.data⟩,⟨10,.data⟩],none⟩) (v:=?_) rfl (by kernel_rfl) (by kernel_rfl) (by kernel_rfl) (fun _ _ _ h=>h) (Or.inl ⟨by rfl,?_⟩) hHeld ?_
 rotate_left
 · (intro w hSw;(try dsimp only at hSw);go_simp;try with_reducible rfl)
 simp only [Act.put,List.setIfInBounds_toArray,List.set_cons_zero,List.set_cons_succ]
 refine wpAnyH_take (i:=12) (oi:=⟨some 47,.move (.tmp 46),4, "law.go:37",#[⟨11,.data⟩,⟨8,.chain⟩],none⟩) (v:=?_) rfl (by kernel_rfl) (by kernel_rfl) (by kernel_rfl) (fun _ _ _ h=>h) (Or.inl ⟨by rfl,?_⟩) hHeld ?_
 rotate_left
 · (intro w hSw;(try dsimp only at hSw);go_simp;try with_reducible rfl)
 simp only [Act.put,List.setIfInBounds_toArray,List.set_cons_zero,List.set_cons_succ]
 refine wpAnyH_take (i:=13) (oi:=⟨some 48,.move (.tmp 4),37, "law.go:37",#[⟨12,.guard⟩],some (12,true)⟩) (v:=?_) rfl (by kernel_rfl) (by kernel_rfl) (by kernel_rfl) (fun _ _ _ h=>h) (Or.inl ⟨by rfl,?_⟩) hHeld ?_
 rotate_left
 · (intro w hSw;(try dsimp only at hSw);go_simp;try with_reducible rfl)
 simp only [Act.put,List.setIfInBounds_toArray,List.set_cons_zero,List.set_cons_succ]
 refine wpAnyH_take (i:=14) (oi:=⟨some 49,.call ⟨.builtin Builtin.len,#[.tmp 48],#[37]⟩,3, "law.go:37",#[⟨13,.data⟩,⟨12,.guard⟩],some (12,true)⟩) (v:=?_) rfl (by kernel_rfl) (by kernel_rfl) (by kernel_rfl) (fun _ _ _ h=>h) (Or.inl ⟨by rfl,?_⟩) hHeld ?_
 rotate_left
 · (intro w hSw;(try dsimp only at hSw);go_simp;try with_reducible rfl)
 simp only [Act.put,List.setIfInBounds_toArray,List.set_cons_zero,List.set_cons_succ]
 refine wpAnyH_take (i:=15) (oi:=⟨some 50,.binOp BinOp.eql 3 (.tmp 49) (.const (Value.int IntKind.i64 3)) 3,4, "law.go:37",#[⟨14,.data⟩,⟨12,.guard⟩],some (12,true)⟩) (v:=?_) rfl (by kernel_rfl) (by kernel_rfl) (by kernel_rfl) (fun _ _ _ h=>h) (Or.inl ⟨by rfl,?_⟩) hHeld ?_
 rotate_left
 · (intro w hSw;(try dsimp only at hSw);go_simp;try with_reducible rfl)
 simp only [Act.put,List.setIfInBounds_toArray,List.set_cons_zero,List.set_cons_succ]
 refine wpAnyH_take (i:=16) (oi:=⟨some 51,.pick (.tmp 47) (.tmp 50) (.const (Value.bool false)),4, "law.go:37",#[⟨12,.data⟩,⟨15,.data⟩],none⟩) (v:=?_) rfl (by kernel_rfl) (by kernel_rfl) (by kernel_rfl) (fun _ _ _ h=>h) (Or.inl ⟨by rfl,?_⟩) hHeld ?_
 rotate_left
 · (intro w hSw;(try dsimp only at hSw);go_simp;try with_reducible rfl)
 simp only [Act.put,List.setIfInBounds_toArray,List.set_cons_zero,List.set_cons_succ]
 refine wpAnyH_take (i:=17) (oi:=⟨some 52,.move (.tmp 51),4, "law.go:37",#[⟨16,.data⟩,⟨12,.chain⟩],none⟩) (v:=?_) rfl (by kernel_rfl) (by kernel_rfl) (by kernel_rfl) (fun _ _ _ h=>h) (Or.inl ⟨by rfl,?_⟩) hHeld ?_
 rotate_left
 · (intro w hSw;(try dsimp only at hSw);go_simp;try with_reducible rfl)
 simp only [Act.put,List.setIfInBounds_toArray,List.set_cons_zero,List.set_cons_succ]
 refine wpAnyH_take (i:=18) (oi:=⟨some 53,.move (.tmp 4),37, "law.go:37",#[⟨17,.guard⟩],some (17,true)⟩) (v:=?_) rfl (by kernel_rfl) (by kernel_rfl) (by kernel_rfl) (fun _ _ _ h=>h) (Or.inl ⟨by rfl,?_⟩) hHeld ?_
 rotate_left
 · (intro w hSw;(try dsimp only at hSw);go_simp;try with_reducible rfl)
 simp only [Act.put,List.setIfInBounds_toArray,List.set_cons_zero,List.set_cons_succ]
 refine wpAnyH_take (i:=19) (oi:=⟨some 54,.indexAddr 37 (.tmp 53) (.const (Value.int IntKind.i64 1)),0, "law.go:37",#[⟨18,.data⟩,⟨17,.guard⟩],some (17,true)⟩) (v:=?_) rfl (by kernel_rfl) (by kernel_rfl) (by kernel_rfl) (fun _ _ _ h=>h) (Or.inl ⟨by rfl,?_⟩) hHeld ?_
 rotate_left
 · (intro w hSw;(try dsimp only at hSw);go_simp;try with_reducible rfl)
 simp only [Act.put,List.setIfInBounds_toArray,List.set_cons_zero,List.set_cons_succ]
 refine wpAnyH_take (i:=20) (oi:=⟨some 55,.fieldAddr 73 (.tmp 54) 2,0, "law.go:37",#[⟨19,.data⟩,⟨17,.guard⟩],some (17,true)⟩) (v:=?_) rfl (by kernel_rfl) (by kernel_rfl) (by kernel_rfl) (fun _ _ _ h=>h) (Or.inl ⟨by rfl,?_⟩) hHeld ?_
 rotate_left
 · (intro w hSw;(try dsimp only at hSw);go_simp;try with_reducible rfl)
 simp only [Act.put,List.setIfInBounds_toArray,List.set_cons_zero,List.set_cons_succ]
 refine wpAnyH_take (i:=21) (oi:=⟨some 56,.load 26 (.tmp 55),26, "law.go:37",#[⟨20,.data⟩,⟨17,.guard⟩],some (17,true)⟩) (v:=?_) rfl (by kernel_rfl) (by kernel_rfl) (by kernel_rfl) (fun _ _ _ h=>h) (Or.inl ⟨by rfl,?_⟩) hHeld ?_
 rotate_left
 · (intro w hSw;(try dsimp only at hSw);go_simp;try with_reducible rfl)
 simp only [Act.put,List.setIfInBounds_toArray,List.set_cons_zero,List.set_cons_succ]
 refine wpAnyH_ready (rs:=[22]) (by kernel_rfl) (by simp) ?_
 refine AllReadyH.cons (o:=⟨some 57,.call ⟨.value (.func 40),#[.tmp 56],#[26]⟩,9, "law.go:37",#[⟨21,.data⟩,⟨17,.chain⟩,⟨17,.guard⟩],some (17,true)⟩) rfl (fun K1 hK1=>?_) AllReadyH.nil
 go_simp
 first
 | (go_at_call 38;(with_reducible refine (lawP 1 1 (by decide) (by decide) (by decide) (by decide) _).mono ?_);rintro e w_p ⟨s_p,A_p,n_p,c_p,B_p,m_p,d_p,t_p,E_p,i_p,e_p,F_p,j_p,f_p,rfl,p,hh⟩
    (try replace a:=a.below hh);(try replace XQ:=XQ.below hh);(try replace LM2:=LM2.below hh);(try replace EP:=EP.below hh);(try replace hp:=hp.below hh);replace hb:=bend hb hh;replace e2:=EachH.belowG e2 hh)
 | (go_at_call 32;(with_reducible refine (psame_p a.pr p.pr (by decide) (by decide) (by decide) (by decide) true wk13_at).mono ?_);rintro e w_z ⟨rfl,hh⟩
    (try replace a:=a.below hh);(try replace XQ:=XQ.below hh);(try replace LM2:=LM2.below hh);(try replace EP:=EP.below hh);(try replace hp:=hp.below hh);replace hb:=bend hb hh;replace e2:=EachH.belowG e2 hh;clear p)
 | (go_at_call 40;(with_reducible refine (rtext_q hp.hr.qw (by decide) (by decide)).mono ?_);rintro e w_z ⟨rfl,hh⟩
    rw [wk13_w];(try replace a:=a.below hh);(try replace XQ:=XQ.below hh);(try replace LM2:=LM2.below hh);(try replace EP:=EP.below hh);(try replace hp:=hp.below hh);replace hb:=bend hb hh;replace e2:=EachH.belowG e2 hh)
 | (go_at_call 40;(with_reducible refine (rtext_q hp.hr.qy (by decide) (by decide)).mono ?_);rintro e w_z ⟨rfl,hh⟩
    rw [wk13_y];(try replace a:=a.below hh);(try replace XQ:=XQ.below hh);(try replace LM2:=LM2.below hh);(try replace EP:=EP.below hh);(try replace hp:=hp.below hh);replace hb:=bend hb hh;replace e2:=EachH.belowG e2 hh)
 | (go_at_call 30;(with_reducible refine (cgood_any LM2 e2.hr hM2 (by decide) (by decide) true hG1).mono ?_);rintro e w_z ⟨rfl,hh⟩
    (try replace a:=a.below hh);(try replace XQ:=XQ.below hh);(try replace LM2:=LM2.below hh);(try replace EP:=EP.below hh);(try replace hp:=hp.below hh);replace hb:=bend hb hh;replace e2:=EachH.belowG e2 hh)
 refine hK1.out _ _ (by with_reducible exact ⟨XQ.c0,XQ.c1,XQ.c2,XQ.c3,XQ.c4,XQ.c5,EP.c3,EP.c4,EP.c5,EP.c6,EP.c7,EP.c8⟩) (fun hHeld=>?_)
 clear hK1 K1
 refine wpAnyH_take (i:=23) (oi:=⟨some 58,.binOp BinOp.eql 9 (.tmp 57) (.const (Value.string {data:=#[50]})) 9,4, "law.go:37",#[⟨22,.data⟩,⟨17,.guard⟩],some (17,true)⟩) (v:=?_) rfl (by kernel_rfl) (by kernel_rfl) (by kernel_rfl) (fun _ _ _ h=>h) (Or.inl ⟨by rfl,?_⟩) hHeld ?_
 rotate_left
 · (intro w hSw;(try dsimp only at hSw);go_simp;try with_reducible rfl)
 simp only [Act.put,List.setIfInBounds_toArray,List.set_cons_zero,List.set_cons_succ]
 refine wpAnyH_take (i:=24) (oi:=⟨some 59,.pick (.tmp 52) (.tmp 58) (.const (Value.bool false)),4, "law.go:37",#[⟨17,.data⟩,⟨23,.data⟩],none⟩) (v:=?_) rfl (by kernel_rfl) (by kernel_rfl) (by kernel_rfl) (fun _ _ _ h=>h) (Or.inl ⟨by rfl,?_⟩) hHeld ?_
 rotate_left
 · (intro w hSw;(try dsimp only at hSw);go_simp;try with_reducible rfl)
 simp only [Act.put,List.setIfInBounds_toArray,List.set_cons_zero,List.set_cons_succ]
 refine wpAnyH_take (i:=25) (oi:=⟨some 60,.move (.tmp 59),4, "law.go:37",#[⟨24,.data⟩,⟨22,.chain⟩],none⟩) (v:=?_) rfl (by kernel_rfl) (by kernel_rfl) (by kernel_rfl) (fun _ _ _ h=>h) (Or.inl ⟨by rfl,?_⟩) hHeld ?_
 rotate_left
 · (intro w hSw;(try dsimp only at hSw);go_simp;try with_reducible rfl)
 simp only [Act.put,List.setIfInBounds_toArray,List.set_cons_zero,List.set_cons_succ]
 refine wpAnyH_take (i:=26) (oi:=⟨some 61,.move (.tmp 4),37, "law.go:37",#[⟨25,.guard⟩],some (25,true)⟩) (v:=?_) rfl (by kernel_rfl) (by kernel_rfl) (by kernel_rfl) (fun _ _ _ h=>h) (Or.inl ⟨by rfl,?_⟩) hHeld ?_
 rotate_left
 · (intro w hSw;(try dsimp only at hSw);go_simp;try with_reducible rfl)
 simp only [Act.put,List.setIfInBounds_toArray,List.set_cons_zero,List.set_cons_succ]
 refine wpAnyH_take (i:=27) (oi:=⟨some 62,.indexAddr 37 (.tmp 61) (.const (Value.int IntKind.i64 1)),0, "law.go:37",#[⟨26,.data⟩,⟨25,.guard⟩],some (25,true)⟩) (v:=?_) rfl (by kernel_rfl) (by kernel_rfl) (by kernel_rfl) (fun _ _ _ h=>h) (Or.inl ⟨by rfl,?_⟩) hHeld ?_
 rotate_left
 · (intro w hSw;(try dsimp only at hSw);go_simp;try with_reducible rfl)
 simp only [Act.put,List.setIfInBounds_toArray,List.set_cons_zero,List.set_cons_succ]
 refine wpAnyH_take (i:=28) (oi:=⟨some 63,.fieldAddr 73 (.tmp 62) 1,0, "law.go:37",#[⟨27,.data⟩,⟨25,.guard⟩],some (25,true)⟩) (v:=?_) rfl (by kernel_rfl) (by kernel_rfl) (by kernel_rfl) (fun _ _ _ h=>h) (Or.inl ⟨by rfl,?_⟩) hHeld ?_
 rotate_left
 · (intro w hSw;(try dsimp only at hSw);go_simp;try with_reducible rfl)
 simp only [Act.put,List.setIfInBounds_toArray,List.set_cons_zero,List.set_cons_succ]
 refine wpAnyH_take (i:=29) (oi:=⟨some 64,.load 26 (.tmp 63),26, "law.go:37",#[⟨28,.data⟩,⟨25,.guard⟩],some (25,true)⟩) (v:=?_) rfl (by kernel_rfl) (by kernel_rfl) (by kernel_rfl) (fun _ _ _ h=>h) (Or.inl ⟨by rfl,?_⟩) hHeld ?_
 rotate_left
 · (intro w hSw;(try dsimp only at hSw);go_simp;try with_reducible rfl)
 simp only [Act.put,List.setIfInBounds_toArray,List.set_cons_zero,List.set_cons_succ]
 refine wpAnyH_ready (rs:=[30]) (by kernel_rfl) (by simp) ?_
 refine AllReadyH.cons (o:=⟨some 65,.call ⟨.value (.func 40),#[.tmp 64],#[26]⟩,9, "law.go:37",#[⟨29,.data⟩,⟨25,.chain⟩,⟨25,.guard⟩],some (25,true)⟩) rfl (fun K1 hK1=>?_) AllReadyH.nil
 go_simp
 first
 | (go_at_call 38;(with_reducible refine (lawP 1 1 (by decide) (by decide) (by decide) (by decide) _).mono ?_);rintro e w_p ⟨s_p,A_p,n_p,c_p,B_p,m_p,d_p,t_p,E_p,i_p,e_p,F_p,j_p,f_p,rfl,p,hh⟩
    (try replace a:=a.below hh);(try replace XQ:=XQ.below hh);(try replace LM2:=LM2.below hh);(try replace EP:=EP.below hh);(try replace hp:=hp.below hh);replace hb:=bend hb hh;replace e2:=EachH.belowG e2 hh)
 | (go_at_call 32;(with_reducible refine (psame_p a.pr p.pr (by decide) (by decide) (by decide) (by decide) true wk13_at).mono ?_);rintro e w_z ⟨rfl,hh⟩
    (try replace a:=a.below hh);(try replace XQ:=XQ.below hh);(try replace LM2:=LM2.below hh);(try replace EP:=EP.below hh);(try replace hp:=hp.below hh);replace hb:=bend hb hh;replace e2:=EachH.belowG e2 hh;clear p)
 | (go_at_call 40;(with_reducible refine (rtext_q hp.hr.qw (by decide) (by decide)).mono ?_);rintro e w_z ⟨rfl,hh⟩
    rw [wk13_w];(try replace a:=a.below hh);(try replace XQ:=XQ.below hh);(try replace LM2:=LM2.below hh);(try replace EP:=EP.below hh);(try replace hp:=hp.below hh);replace hb:=bend hb hh;replace e2:=EachH.belowG e2 hh)
 | (go_at_call 40;(with_reducible refine (rtext_q hp.hr.qy (by decide) (by decide)).mono ?_);rintro e w_z ⟨rfl,hh⟩
    rw [wk13_y];(try replace a:=a.below hh);(try replace XQ:=XQ.below hh);(try replace LM2:=LM2.below hh);(try replace EP:=EP.below hh);(try replace hp:=hp.below hh);replace hb:=bend hb hh;replace e2:=EachH.belowG e2 hh)
 | (go_at_call 30;(with_reducible refine (cgood_any LM2 e2.hr hM2 (by decide) (by decide) true hG1).mono ?_);rintro e w_z ⟨rfl,hh⟩
    (try replace a:=a.below hh);(try replace XQ:=XQ.below hh);(try replace LM2:=LM2.below hh);(try replace EP:=EP.below hh);(try replace hp:=hp.below hh);replace hb:=bend hb hh;replace e2:=EachH.belowG e2 hh)
 refine hK1.out _ _ (by with_reducible exact ⟨XQ.c0,XQ.c1,XQ.c2,XQ.c3,XQ.c4,XQ.c5,EP.c3,EP.c4,EP.c5,EP.c6,EP.c7,EP.c8⟩) (fun hHeld=>?_)
 clear hK1 K1
 refine wpAnyH_take (i:=31) (oi:=⟨some 66,.binOp BinOp.eql 9 (.tmp 65) (.const (Value.string {data:=#[52]})) 9,4, "law.go:37",#[⟨30,.data⟩,⟨25,.guard⟩],some (25,true)⟩) (v:=?_) rfl (by kernel_rfl) (by kernel_rfl) (by kernel_rfl) (fun _ _ _ h=>h) (Or.inl ⟨by rfl,?_⟩) hHeld ?_
 rotate_left
 · (intro w hSw;(try dsimp only at hSw);go_simp;try with_reducible rfl)
 simp only [Act.put,List.setIfInBounds_toArray,List.set_cons_zero,List.set_cons_succ]
 refine wpAnyH_take (i:=32) (oi:=⟨some 67,.pick (.tmp 60) (.tmp 66) (.const (Value.bool false)),4, "law.go:37",#[⟨25,.data⟩,⟨31,.data⟩],none⟩) (v:=?_) rfl (by kernel_rfl) (by kernel_rfl) (by kernel_rfl) (fun _ _ _ h=>h) (Or.inl ⟨by rfl,?_⟩) hHeld ?_
 rotate_left
 · (intro w hSw;(try dsimp only at hSw);go_simp;try with_reducible rfl)
 simp only [Act.put,List.setIfInBounds_toArray,List.set_cons_zero,List.set_cons_succ]
 refine wpAnyH_take (i:=33) (oi:=⟨some 68,.move (.tmp 67),4, "law.go:37",#[⟨32,.data⟩,⟨30,.chain⟩],none⟩) (v:=?_) rfl (by kernel_rfl) (by kernel_rfl) (by kernel_rfl) (fun _ _ _ h=>h) (Or.inl ⟨by rfl,?_⟩) hHeld ?_
 rotate_left
 · (intro w hSw;(try dsimp only at hSw);go_simp;try with_reducible rfl)
 simp only [Act.put,List.setIfInBounds_toArray,List.set_cons_zero,List.set_cons_succ]
 refine wpAnyH_take (i:=34) (oi:=⟨some 69,.move (.tmp 7),38, "law.go:37",#[⟨33,.guard⟩],some (33,true)⟩) (v:=?_) rfl (by kernel_rfl) (by kernel_rfl) (by kernel_rfl) (fun _ _ _ h=>h) (Or.inl ⟨by rfl,?_⟩) hHeld ?_
 rotate_left
 · (intro w hSw;(try dsimp only at hSw);go_simp;try with_reducible rfl)
 simp only [Act.put,List.setIfInBounds_toArray,List.set_cons_zero,List.set_cons_succ]
 refine wpAnyH_take (i:=35) (oi:=⟨some 70,.binOp BinOp.eql 38 (.tmp 69) (.const (Value.int IntKind.i64 1)) 38,4, "law.go:37",#[⟨34,.data⟩,⟨33,.guard⟩],some (33,true)⟩) (v:=?_) rfl (by kernel_rfl) (by kernel_rfl) (by kernel_rfl) (fun _ _ _ h=>h) (Or.inl ⟨by rfl,?_⟩) hHeld ?_
 rotate_left
 · (intro w hSw;(try dsimp only at hSw);go_simp;try with_reducible rfl)
 simp only [Act.put,List.setIfInBounds_toArray,List.set_cons_zero,List.set_cons_succ]
 refine wpAnyH_take (i:=36) (oi:=⟨some 71,.pick (.tmp 68) (.tmp 70) (.const (Value.bool false)),4, "law.go:37",#[⟨33,.data⟩,⟨35,.data⟩],none⟩) (v:=?_) rfl (by kernel_rfl) (by kernel_rfl) (by kernel_rfl) (fun _ _ _ h=>h) (Or.inl ⟨by rfl,?_⟩) hHeld ?_
 rotate_left
 · (intro w hSw;(try dsimp only at hSw);go_simp;try with_reducible rfl)
 simp only [Act.put,List.setIfInBounds_toArray,List.set_cons_zero,List.set_cons_succ]
 refine wpAnyH_take (i:=37) (oi:=⟨some 72,.move (.tmp 71),4, "law.go:37",#[⟨36,.data⟩,⟨33,.chain⟩],none⟩) (v:=?_) rfl (by kernel_rfl) (by kernel_rfl) (by kernel_rfl) (fun _ _ _ h=>h) (Or.inl ⟨by rfl,?_⟩) hHeld ?_
 rotate_left
 · (intro w hSw;(try dsimp only at hSw);go_simp;try with_reducible rfl)
 simp only [Act.put,List.setIfInBounds_toArray,List.set_cons_zero,List.set_cons_succ]
 refine wpAnyH_take (i:=38) (oi:=⟨some 73,.move (.tmp 4),37, "law.go:37",#[⟨37,.guard⟩],some (37,true)⟩) (v:=?_) rfl (by kernel_rfl) (by kernel_rfl) (by kernel_rfl) (fun _ _ _ h=>h) (Or.inl ⟨by rfl,?_⟩) hHeld ?_
 rotate_left
 · (intro w hSw;(try dsimp only at hSw);go_simp;try with_reducible rfl)
 simp only [Act.put,List.setIfInBounds_toArray,List.set_cons_zero,List.set_cons_succ]
 refine wpAnyH_ready (rs:=[39]) (by kernel_rfl) (by simp) ?_
 refine AllReadyH.cons (o:=⟨some 74,.call ⟨.value (.func 30),#[.tmp 73],#[37]⟩,4, "law.go:37",#[⟨38,.data⟩,⟨37,.chain⟩,⟨37,.guard⟩],some (37,true)⟩) rfl (fun K1 hK1=>?_) AllReadyH.nil
 go_simp
 first
 | (go_at_call 38;(with_reducible refine (lawP 1 1 (by decide) (by decide) (by decide) (by decide) _).mono ?_);rintro e w_p ⟨s_p,A_p,n_p,c_p,B_p,m_p,d_p,t_p,E_p,i_p,e_p,F_p,j_p,f_p,rfl,p,hh⟩
    (try replace a:=a.below hh);(try replace XQ:=XQ.below hh);(try replace LM2:=LM2.below hh);(try replace EP:=EP.below hh);(try replace hp:=hp.below hh);replace hb:=bend hb hh;replace e2:=EachH.belowG e2 hh)
 | (go_at_call 32;(with_reducible refine (psame_p a.pr p.pr (by decide) (by decide) (by decide) (by decide) true wk13_at).mono ?_);rintro e w_z ⟨rfl,hh⟩
    (try replace a:=a.below hh);(try replace XQ:=XQ.below hh);(try replace LM2:=LM2.below hh);(try replace EP:=EP.below hh);(try replace hp:=hp.below hh);replace hb:=bend hb hh;replace e2:=EachH.belowG e2 hh;clear p)
 | (go_at_call 40;(with_reducible refine (rtext_q hp.hr.qw (by decide) (by decide)).mono ?_);rintro e w_z ⟨rfl,hh⟩
    rw [wk13_w];(try replace a:=a.below hh);(try replace XQ:=XQ.below hh);(try replace LM2:=LM2.below hh);(try replace EP:=EP.below hh);(try replace hp:=hp.below hh);replace hb:=bend hb hh;replace e2:=EachH.belowG e2 hh)
 | (go_at_call 40;(with_reducible refine (rtext_q hp.hr.qy (by decide) (by decide)).mono ?_);rintro e w_z ⟨rfl,hh⟩
    rw [wk13_y];(try replace a:=a.below hh);(try replace XQ:=XQ.below hh);(try replace LM2:=LM2.below hh);(try replace EP:=EP.below hh);(try replace hp:=hp.below hh);replace hb:=bend hb hh;replace e2:=EachH.belowG e2 hh)
 | (go_at_call 30;(with_reducible refine (cgood_any LM2 e2.hr hM2 (by decide) (by decide) true hG1).mono ?_);rintro e w_z ⟨rfl,hh⟩
    (try replace a:=a.below hh);(try replace XQ:=XQ.below hh);(try replace LM2:=LM2.below hh);(try replace EP:=EP.below hh);(try replace hp:=hp.below hh);replace hb:=bend hb hh;replace e2:=EachH.belowG e2 hh)
 refine hK1.out _ _ (by with_reducible exact ⟨XQ.c0,XQ.c1,XQ.c2,XQ.c3,XQ.c4,XQ.c5,EP.c3,EP.c4,EP.c5,EP.c6,EP.c7,EP.c8⟩) (fun hHeld=>?_)
 clear hK1 K1
 refine wpAnyH_take (i:=40) (oi:=⟨some 75,.pick (.tmp 72) (.tmp 74) (.const (Value.bool false)),4, "law.go:37",#[⟨37,.data⟩,⟨39,.data⟩],none⟩) (v:=?_) rfl (by kernel_rfl) (by kernel_rfl) (by kernel_rfl) (fun _ _ _ h=>h) (Or.inl ⟨by rfl,?_⟩) hHeld ?_
 rotate_left
 · (intro w hSw;(try dsimp only at hSw);go_simp;try with_reducible rfl)
 simp only [Act.put,List.setIfInBounds_toArray,List.set_cons_zero,List.set_cons_succ]
 refine wpAnyH_take (i:=41) (oi:=⟨some 0,.assign (.tmp 75),4, "law.go:37",#[⟨40,.data⟩,⟨39,.chain⟩,⟨0,.phase⟩,⟨1,.phase⟩,⟨2,.phase⟩,⟨3,.phase⟩,⟨4,.phase⟩,⟨5,.phase⟩,⟨6,.phase⟩,⟨7,.phase⟩,⟨8,.phase⟩,⟨9,.phase⟩,⟨10,.phase⟩,⟨11,.phase⟩,⟨12,.phase⟩,⟨13,.phase⟩,⟨14,.phase⟩,⟨15,.phase⟩,⟨16,.phase⟩,⟨17,.phase⟩,⟨18,.phase⟩,⟨19,.phase⟩,⟨20,.phase⟩,⟨21,.phase⟩,⟨22,.phase⟩,⟨23,.phase⟩,⟨24,.phase⟩,⟨25,.phase⟩,⟨26,.phase⟩,⟨27,.phase⟩,⟨28,.phase⟩,⟨29,.phase⟩,⟨30,.phase⟩,⟨31,.phase⟩,⟨32,.phase⟩,⟨33,.phase⟩,⟨34,.phase⟩,⟨35,.phase⟩,⟨36,.phase⟩,⟨37,.phase⟩,⟨38,.phase⟩,⟨39,.phase⟩,⟨40,.phase⟩],none⟩) (v:=?_) rfl (by kernel_rfl) (by kernel_rfl) (by kernel_rfl) (fun _ _ _ h=>h) (Or.inl ⟨by rfl,?_⟩) hHeld ?_
 rotate_left
 · (intro w hSw;(try dsimp only at hSw);go_simp;try with_reducible rfl)
 simp only [Act.put,List.setIfInBounds_toArray,List.set_cons_zero]
 refine wpAnyH_done (by kernel_rfl) ?_ _
 go_wp2_with fail
 go_ret;exact ⟨rfl,hb⟩
end
section
open Go Go.RowKit
attribute [local go_sem ↓] open_LVH open_STH open_LVJ open_STJ
theorem GivesPtE.more {x y:Rat} {k k1:Nat} {en:Ending} {w':World} (h:GivesPtE w x y k en w') (hk:k≤k1):GivesPtE w x y k1 en w':=by
 obtain ⟨s,A,n,c,B,m,d,t,E,i,e,F,j,f,h1,h2,h3⟩:=h
 exact ⟨s,A,n,c,B,m,d,t,E,i,e,F,j,f,h1,h2.more hk,h3⟩
theorem kRow_cap {k t n N:Nat} (hn:n≤N) {B:Nat} (hB:kRow k t N+(1+kRow k t N)≤B):kRow k t n+(1+kRow k t n)≤B:=by
 have:=kRow_le (k:=k) (t:=t) hn
 omega
theorem cat_any {A A1 A2:Option Addr} {n c n1 c1 n2 c2 k kt B:Nat} {s:Bool} {L:List HV} {V:List AH} {vt:Rat} (hL:SV w A (hvs L)) (hE:EachH HR w L V k) (hn:L.length=n) (q:QR w s A1 n1 c1 A2 n2 c2 vt kt) (hk:kRow k kt 3≤10000) (ht:kt≤1000) (h1:1≤k) (h2:1≤kt) (hG:GoodH V) (h0:0≤vt∧vt≤1) (hB:kRow k kt 3+(1+kRow k kt 3)≤B) :
 Calls Tryz.prog 21 #[.slice A n c,.agg #[.bool s,.slice A1 n1 c1,.slice A2 n2 c2]] w (GivesPtE w (bez vt V).px (bez vt V).py B):=by
 have hn4:n - 1≤3:=by have:=hG.1;rw [← hn,hE.1];omega
 have hk2:=Nat.le_trans (kRow_le (k:=k) (t:=kt) hn4) hk
 rcases cvsgn_nn h0.1 with e | e
 · exact (cat_p0 hL hE hn q hk2 ht h1 h2 hG h0.1 h0.2 e).mono fun _ _ h=>h.more (kRow_cap hn4 hB)
 · exact (cat_p1 hL hE hn q hk2 ht h1 h2 hG h0.1 h0.2 e).mono fun _ _ h=>h.more (kRow_cap hn4 hB)
theorem zero_q:Rat.divInt 0 1=0:=by decide +kernel
end
section
open Go Go.RowKit
def BL1 (W:World) (g:Nat) (v0:Value) (v1:Value) (v2:Value) (v3:Value) (v4:Value) (v5:Value):Prop:=W.heap[g]?=some (.cells #[v0,v1,v2,v3,v4,v5] 28 (0,0))
section
variable {W W':World} {g:Nat} {v0 v1 v2 v3 v4 v5:Value}
theorem BL1.c0 (h:BL1 W g v0 v1 v2 v3 v4 v5):W.cell? ⟨g,0,none⟩=some v0:=by rw [cell_of_row W g 0 _ _ (0,0) h];rfl
theorem BL1.c1 (h:BL1 W g v0 v1 v2 v3 v4 v5):W.cell? ⟨g,1,none⟩=some v1:=by rw [cell_of_row W g 1 _ _ (0,0) h];rfl
theorem BL1.c2 (h:BL1 W g v0 v1 v2 v3 v4 v5):W.cell? ⟨g,2,none⟩=some v2:=by rw [cell_of_row W g 2 _ _ (0,0) h];rfl
theorem BL1.c3 (h:BL1 W g v0 v1 v2 v3 v4 v5):W.cell? ⟨g,3,none⟩=some v3:=by rw [cell_of_row W g 3 _ _ (0,0) h];rfl
theorem BL1.c4 (h:BL1 W g v0 v1 v2 v3 v4 v5):W.cell? ⟨g,4,none⟩=some v4:=by rw [cell_of_row W g 4 _ _ (0,0) h];rfl
theorem BL1.c5 (h:BL1 W g v0 v1 v2 v3 v4 v5):W.cell? ⟨g,5,none⟩=some v5:=by rw [cell_of_row W g 5 _ _ (0,0) h];rfl
theorem BL1.all (h:BL1 W g v0 v1 v2 v3 v4 v5):W.cell? ⟨g,0,none⟩=some v0∧W.cell? ⟨g,1,none⟩=some v1∧W.cell? ⟨g,2,none⟩=some v2∧W.cell? ⟨g,3,none⟩=some v3∧W.cell? ⟨g,4,none⟩=some v4∧W.cell? ⟨g,5,none⟩=some v5:=⟨h.c0,h.c1,h.c2,h.c3,h.c4,h.c5⟩
theorem BL1.lt (h:BL1 W g v0 v1 v2 v3 v4 v5):g < W.heap.size:=World.block_lt_of_cell? W _ h.c0
theorem BL1.below (h:BL1 W g v0 v1 v2 v3 v4 v5) (hb:Below W.heap.size W W'):BL1 W' g v0 v1 v2 v3 v4 v5:=(hb.block g h.lt).trans h
theorem BL1.alloc (h:BL1 W g v0 v1 v2 v3 v4 v5) (o:Obj):BL1 (W.alloc o) g v0 v1 v2 v3 v4 v5:=(Below.heap_alloc W o g h.lt).trans h
end
theorem BL1.new' (W:World) (v0 v1 v2 v3 v4 v5:Value) (g:Nat) (hg:g=W.heap.size):BL1 (W.alloc (.cells #[v0,v1,v2,v3,v4,v5] 28)) g v0 v1 v2 v3 v4 v5:=by subst hg;exact heap_alloc_new W _
theorem line1_0 {g:Nat} (L:BL1 w g (.bool s_p) (.slice A_p n_p c_p) (.slice B_p m_p d_p) (.bool t_p) (.slice E_p i_p e_p) (.slice F_p j_p f_p)) (h0:decide ((n_p≤6∧m_p≤6)∧i_p≤6∧j_p≤6)=false) :
 Calls Tryz.prog 37 #[.slice (some ⟨g,0,none⟩) 1 1,.int .i64 6] w fun e w'=>e=.returned (.bool false)∧Below w.heap.size w w':=by
 have H0:=Lib.hid h0;clear h0
 have hb:Below w.heap.size w w:=Below.refl _ _
 obtain ⟨l0,l1,l2,l3,l4,l5⟩:=L.all
 go_enter Tryz.func37,Tryz.ntmps37
 go_wp2_with fail
 refine wp_loop_rounds 2 ?_
 rw [rounds_succ]
 go_wp2_with (first
  | (go_at_call 81;(with_reducible refine (smallpt_6 (s_p:=s_p) (A_p:=A_p) (n_p:=n_p) (c_p:=c_p) (B_p:=B_p) (m_p:=m_p) (d_p:=d_p) (t_p:=t_p) (E_p:=E_p) (i_p:=i_p) (e_p:=e_p) (F_p:=F_p) (j_p:=j_p) (f_p:=f_p) false H0.out).mono ?_);rintro e w_z ⟨rfl,hh⟩
     (try replace L:=L.below hh);replace hb:=bend hb hh;obtain ⟨l0,l1,l2,l3,l4,l5⟩:=L.all))
 go_ret;exact ⟨rfl,hb⟩
theorem line1_1 {g:Nat} (L:BL1 w g (.bool s_p) (.slice A_p n_p c_p) (.slice B_p m_p d_p) (.bool t_p) (.slice E_p i_p e_p) (.slice F_p j_p f_p)) (h0:decide ((n_p≤6∧m_p≤6)∧i_p≤6∧j_p≤6)=true) :
 Calls Tryz.prog 37 #[.slice (some ⟨g,0,none⟩) 1 1,.int .i64 6] w fun e w'=>e=.returned (.bool true)∧Below w.heap.size w w':=by
 have H0:=Lib.hid h0;clear h0
 have hb:Below w.heap.size w w:=Below.refl _ _
 obtain ⟨l0,l1,l2,l3,l4,l5⟩:=L.all
 go_enter Tryz.func37,Tryz.ntmps37
 go_wp2_with fail
 refine wp_loop_rounds 2 ?_
 rw [rounds_succ]
 go_wp2_with (first
  | (go_at_call 81;(with_reducible refine (smallpt_6 (s_p:=s_p) (A_p:=A_p) (n_p:=n_p) (c_p:=c_p) (B_p:=B_p) (m_p:=m_p) (d_p:=d_p) (t_p:=t_p) (E_p:=E_p) (i_p:=i_p) (e_p:=e_p) (F_p:=F_p) (j_p:=j_p) (f_p:=f_p) true H0.out).mono ?_);rintro e w_z ⟨rfl,hh⟩
     (try replace L:=L.below hh);replace hb:=bend hb hh;obtain ⟨l0,l1,l2,l3,l4,l5⟩:=L.all))
 rw [rounds_succ]
 go_wp2_with fail
 go_ret;exact ⟨rfl,hb⟩
theorem line1 {g:Nat} (L:BL1 w g (.bool s_p) (.slice A_p n_p c_p) (.slice B_p m_p d_p) (.bool t_p) (.slice E_p i_p e_p) (.slice F_p j_p f_p)) (R:Bool) (hR:decide (((n_p≤6∧m_p≤6)∧i_p≤6∧j_p≤6))=R) :
 Calls Tryz.prog 37 #[.slice (some ⟨g,0,none⟩) 1 1,.int .i64 6] w fun e w'=>e=.returned (.bool R)∧Below w.heap.size w w':=by
 subst hR
 by_cases h0:(n_p≤6∧m_p≤6)∧i_p≤6∧j_p≤6
 case neg=>rw [decide_eq_false (fun q=>h0 q)];exact line1_0 L  (decide_eq_false h0)
 rw [decide_eq_true h0];exact line1_1 L (decide_eq_true h0)
theorem fair1 {g:Nat} (L:BL1 w g (.bool s_p) (.slice A_p n_p c_p) (.slice B_p m_p d_p) (.bool t_p) (.slice E_p i_p e_p) (.slice F_p j_p f_p)) (R:Bool) (hR:decide (((n_p≤6∧m_p≤6)∧i_p≤6∧j_p≤6))=R) :
 Calls Tryz.prog 8 #[.slice (some ⟨g,0,none⟩) 1 1] w fun e w'=>e=.returned (.bool R)∧Below w.heap.size w w':=by
 have HR:=Lib.hid hR;clear hR
 have hb:Below w.heap.size w w:=Below.refl _ _
 go_enter Tryz.func8,Tryz.ntmps8
 go_wp2_with (first
  | (go_at_call 37;(with_reducible refine (line1 L R HR.out).mono ?_);rintro e w_z ⟨rfl,hh⟩
     replace hb:=bend hb hh))
 go_ret;exact ⟨rfl,hb⟩
end
section
open Go Go.RowKit
attribute [local go_sem ↓] open_LVM open_STM open_LVN open_STN
attribute [local go_sem ↓] open_LVH open_STH open_LVJ open_STJ
theorem cof_p {k l kp:Nat} {v:AM} {m:MV} {fx fy:Rat} (u:SV8) (p:PR w s_p A_p n_p c_p B_p m_p d_p t_p E_p i_p e_p F_p j_p f_p fx fy kp) (M:MR w m v k l) (hin:u.In) (hkk:k+kp≤10000) (hl:l≤9000) (h1:1≤k) (h2:1≤kp) (h3:1≤l) (hd:u.draws) :
 Calls Tryz.prog 11 #[.agg #[.bool s_p,.slice A_p n_p c_p,.slice B_p m_p d_p,.bool t_p,.slice E_p i_p e_p,.slice F_p j_p f_p],.agg #[.int .i64 u.k,.int .i64 u.v0,.int .i64 u.v1,.int .i64 u.v2,.int .i64 u.v3,.int .i64 u.v4,.int .i64 u.v5,.int .i64 u.w],.agg #[.bool m.a.s,.slice m.a.A m.a.n m.a.c,.slice m.a.B m.a.m m.a.d,.bool m.b.s,.slice m.b.A m.b.n m.b.c,.slice m.b.B m.b.m m.b.d,.bool m.c.s,.slice m.c.A m.c.n m.c.c,.slice m.c.B m.c.m m.c.d,.bool m.d.s,.slice m.d.A m.d.n m.d.c,.slice m.d.B m.d.m m.d.d,.bool m.e.s,.slice m.e.A m.e.n m.e.c,.slice m.e.B m.e.m m.e.d,.bool m.f.s,.slice m.f.A m.f.n m.f.c,.slice m.f.B m.f.m m.f.d]] w (GivesHsE w (ofL v fx fy u (cntK u.k)) (k+kp+(k+kp)+1+l+1+1)):=by
 have hn:=hd.1
 by_cases hk:u.k=5
 · exact cof_5 u p M hin hkk hl h1 h2 h3 _ rfl (by omega) hk (hd.2 hk)
 · exact cof_n u p M hin hkk hl h1 h2 h3 _ rfl (by omega) hk
def linA (v:AM) (p:AH):AH:=⟨v.a*p.x+v.c*p.y+v.e*p.w,v.b*p.x+v.d*p.y+v.f*p.w,p.w⟩
theorem linA_mix (v:AM) (p q:AH) (t:Rat):linA v (p.mix q t)=(linA v p).mix (linA v q) t :=
 AH.eq (by unfold linA AH.mix mixQ;grind) (by unfold linA AH.mix mixQ;grind) rfl
theorem one_ax (x y:Rat):AM.one.ax x y=x:=by unfold AM.one AM.ax;simp only [one_q,zero_q];grind
theorem one_ay (x y:Rat):AM.one.ay x y=y:=by unfold AM.one AM.ay;simp only [one_q,zero_q];grind
theorem ofL_lin (v:AM) (x y:Rat) (u:SV8) (n:Nat):ofL v x y u n=(ofL AM.one x y u n).map (linA v):=by
 unfold ofL
 rw [List.map_cons,List.map_map]
 congr 1
 · exact AH.eq (by unfold linA;simp only [one_ax,one_ay];unfold AM.ax;grind) (by unfold linA;simp only [one_ax,one_ay];unfold AM.ay;grind) rfl
 · refine List.map_congr_left fun i _=>?_
   unfold ofA
   exact AH.eq (by unfold linA;simp only [one_ax,one_ay];unfold AM.ax;grind) (by unfold linA;simp only [one_ax,one_ay];unfold AM.ay;grind) rfl
theorem wgt_pos {u:SV8} (h:u.draws) (i:Nat):0 < wgtQ u i:=by
 unfold wgtQ
 split
 · rename_i q
   have hw:=h.2 q.1
   have e:fromQ u.w 64=(u.w:Rat) / 64:=by unfold fromQ;rw [if_neg (by decide),Rat.divInt_eq_div];rfl
   rw [e]
   have:(1:Rat)≤(u.w:Rat):=by exact_mod_cast hw
   grind
 · decide
theorem good_ofL {v:AM} {x y:Rat} {u:SV8} (h:u.draws):GoodH (ofL v x y u (cntK u.k)):=by
 have h1:=h.1;have h3:=cntK_le u.k
 refine ⟨by rw [ofL_length];omega,fun p hp=>?_⟩
 rcases List.mem_cons.1 hp with rfl | hp
 · show (0:Rat) < 1;decide
 · obtain ⟨i,_,rfl⟩:=List.mem_map.1 hp
   exact wgt_pos h i
theorem maps_at {v:AM} {x y:Rat} {u:SV8} (h:u.draws) {t:Rat} (h0:0≤t∧t≤1):decide (v.ax (bez t (ofL AM.one x y u (cntK u.k))).px (bez t (ofL AM.one x y u (cntK u.k))).py=(bez t (ofL v x y u (cntK u.k))).px∧v.ay (bez t (ofL AM.one x y u (cntK u.k))).px (bez t (ofL AM.one x y u (cntK u.k))).py=(bez t (ofL v x y u (cntK u.k))).py)=true:=by
 have hg:=good_ofL (v:=AM.one) (x:=x) (y:=y) h
 have hw:=bez_w (by have:=hg.1;omega) h0.1 h0.2 hg.2
 rw [ofL_lin v,bez_map (linA_mix v) hg.1]
 generalize bez t (ofL AM.one x y u (cntK u.k))=p at hw
 refine decide_eq_true ⟨?_,?_⟩
 · unfold linA AM.ax AH.px AH.py;grind
 · unfold linA AM.ay AH.px AH.py;grind
theorem third_q:0≤Rat.divInt 1 3∧Rat.divInt 1 3≤1:=by decide +kernel
theorem maps_l0 {m:MV} (u:SV8) (h1:¬ ((n_p≤6∧m_p≤6)∧i_p≤6∧j_p≤6)) :
 Calls Tryz.prog 6 #[.agg #[.bool s_p,.slice A_p n_p c_p,.slice B_p m_p d_p,.bool t_p,.slice E_p i_p e_p,.slice F_p j_p f_p],.agg #[.int .i64 u.k,.int .i64 u.v0,.int .i64 u.v1,.int .i64 u.v2,.int .i64 u.v3,.int .i64 u.v4,.int .i64 u.v5,.int .i64 u.w],.agg #[.bool m.a.s,.slice m.a.A m.a.n m.a.c,.slice m.a.B m.a.m m.a.d,.bool m.b.s,.slice m.b.A m.b.n m.b.c,.slice m.b.B m.b.m m.b.d,.bool m.c.s,.slice m.c.A m.c.n m.c.c,.slice m.c.B m.c.m m.c.d,.bool m.d.s,.slice m.d.A m.d.n m.d.c,.slice m.d.B m.d.m m.d.d,.bool m.e.s,.slice m.e.A m.e.n m.e.c,.slice m.e.B m.e.m m.e.d,.bool m.f.s,.slice m.f.A m.f.n m.f.c,.slice m.f.B m.f.m m.f.d]] w fun e w'=>e=.returned (.bool true)∧Below w.heap.size w w':=by
 have HL:Hid (decide ((n_p≤6∧m_p≤6)∧i_p≤6∧j_p≤6)=false):=decide_eq_false h1
 clear h1
 go_enter Tryz.func6,Tryz.ntmps6
 go_upto_region 1 with (fail)
 generalize hW:World.alloc _ _=W
 obtain ⟨hb,XF,XS,XM,hzW⟩:=mkbx38_14 hW;clear hW;obtain ⟨xf0,xf1,xf2,xf3,xf4,xf5⟩:=XF.all
 have ha:Below W.heap.size W (W.alloc (.cells #[.bool s_p,.slice A_p n_p c_p,.slice B_p m_p d_p,.bool t_p,.slice E_p i_p e_p,.slice F_p j_p f_p] 28)):=(Below.refl _ _).alloc (Nat.le_refl _) _
 have XL:=BL1.new' W (.bool s_p) (.slice A_p n_p c_p) (.slice B_p m_p d_p) (.bool t_p) (.slice E_p i_p e_p) (.slice F_p j_p f_p) (w.heap.size+3) hzW.symm
 replace XF:=XF.below ha;replace XS:=XS.below ha;replace XM:=XM.below ha;replace hb:=bend hb ha;clear ha
 go_wp2_with (first
  | (go_at_call 8;(with_reducible refine (fair1 XL false HL.out).mono ?_);rintro e w_z ⟨rfl,hh⟩
     (try replace XF:=XF.below hh);(try replace XS:=XS.below hh);(try replace XM:=XM.below hh);replace hb:=bend hb hh;clear XL xf0 xf1 xf2 xf3 xf4 xf5)
  | (go_at_call 10;(with_reducible refine (wakes13_any _).mono ?_);rintro e w_z ⟨rfl,hh⟩
     replace hb:=bend hb hh))
 go_ret;exact ⟨rfl,hb⟩
theorem maps_l1 {m:MV} (u:SV8) (h1:((n_p≤6∧m_p≤6)∧i_p≤6∧j_p≤6)) (h2:¬ ((((m.a.n≤6∧m.a.m≤6)∧m.b.n≤6∧m.b.m≤6))∧(((m.c.n≤6∧m.c.m≤6)∧m.d.n≤6∧m.d.m≤6))∧(((m.e.n≤6∧m.e.m≤6)∧m.f.n≤6∧m.f.m≤6)))) :
 Calls Tryz.prog 6 #[.agg #[.bool s_p,.slice A_p n_p c_p,.slice B_p m_p d_p,.bool t_p,.slice E_p i_p e_p,.slice F_p j_p f_p],.agg #[.int .i64 u.k,.int .i64 u.v0,.int .i64 u.v1,.int .i64 u.v2,.int .i64 u.v3,.int .i64 u.v4,.int .i64 u.v5,.int .i64 u.w],.agg #[.bool m.a.s,.slice m.a.A m.a.n m.a.c,.slice m.a.B m.a.m m.a.d,.bool m.b.s,.slice m.b.A m.b.n m.b.c,.slice m.b.B m.b.m m.b.d,.bool m.c.s,.slice m.c.A m.c.n m.c.c,.slice m.c.B m.c.m m.c.d,.bool m.d.s,.slice m.d.A m.d.n m.d.c,.slice m.d.B m.d.m m.d.d,.bool m.e.s,.slice m.e.A m.e.n m.e.c,.slice m.e.B m.e.m m.e.d,.bool m.f.s,.slice m.f.A m.f.n m.f.c,.slice m.f.B m.f.m m.f.d]] w fun e w'=>e=.returned (.bool true)∧Below w.heap.size w w':=by
 have HL:Hid (decide ((n_p≤6∧m_p≤6)∧i_p≤6∧j_p≤6)=true):=decide_eq_true h1
 have HM:Hid (decide ((((m.a.n≤6∧m.a.m≤6)∧m.b.n≤6∧m.b.m≤6))∧(((m.c.n≤6∧m.c.m≤6)∧m.d.n≤6∧m.d.m≤6))∧(((m.e.n≤6∧m.e.m≤6)∧m.f.n≤6∧m.f.m≤6)))=false):=decide_eq_false h2
 clear h1 h2
 go_enter Tryz.func6,Tryz.ntmps6
 go_upto_region 1 with (fail)
 generalize hW:World.alloc _ _=W
 obtain ⟨hb,XF,XS,XM,hzW⟩:=mkbx38_14 hW;clear hW;obtain ⟨xf0,xf1,xf2,xf3,xf4,xf5⟩:=XF.all
 have ha:Below W.heap.size W (W.alloc (.cells #[.bool s_p,.slice A_p n_p c_p,.slice B_p m_p d_p,.bool t_p,.slice E_p i_p e_p,.slice F_p j_p f_p] 28)):=(Below.refl _ _).alloc (Nat.le_refl _) _
 have XL:=BL1.new' W (.bool s_p) (.slice A_p n_p c_p) (.slice B_p m_p d_p) (.bool t_p) (.slice E_p i_p e_p) (.slice F_p j_p f_p) (w.heap.size+3) hzW.symm
 replace XF:=XF.below ha;replace XS:=XS.below ha;replace XM:=XM.below ha;replace hb:=bend hb ha;clear ha
 go_wp2_with (first
  | (go_at_call 8;(with_reducible refine (fair1 XL true HL.out).mono ?_);rintro e w_z ⟨rfl,hh⟩
     (try replace XF:=XF.below hh);(try replace XS:=XS.below hh);(try replace XM:=XM.below hh);replace hb:=bend hb hh;clear XL xf0 xf1 xf2 xf3 xf4 xf5;have xml:=XM.ld)
  | (go_at_call 9;(with_reducible refine (fairM false HM.out).mono ?_);rintro e w_y ⟨rfl,hh⟩
     (try replace XF:=XF.below hh);(try replace XS:=XS.below hh);(try replace XM:=XM.below hh);replace hb:=bend hb hh;clear xml)
  | (go_at_call 10;(with_reducible refine (wakes13_any _).mono ?_);rintro e w_z ⟨rfl,hh⟩
     replace hb:=bend hb hh))
 go_ret;exact ⟨rfl,hb⟩
theorem maps_e {m:MV} (u:SV8) {v:AM} {fx fy:Rat} (M:MR w m v 6 6) (p:PR w s_p A_p n_p c_p B_p m_p d_p t_p E_p i_p e_p F_p j_p f_p fx fy 6) (h1:((n_p≤6∧m_p≤6)∧i_p≤6∧j_p≤6)) (h2:((((m.a.n≤6∧m.a.m≤6)∧m.b.n≤6∧m.b.m≤6))∧(((m.c.n≤6∧m.c.m≤6)∧m.d.n≤6∧m.d.m≤6))∧(((m.e.n≤6∧m.e.m≤6)∧m.f.n≤6∧m.f.m≤6)))) (_hin:u.In) (hd:¬ u.draws) :
 Calls Tryz.prog 6 #[.agg #[.bool s_p,.slice A_p n_p c_p,.slice B_p m_p d_p,.bool t_p,.slice E_p i_p e_p,.slice F_p j_p f_p],.agg #[.int .i64 u.k,.int .i64 u.v0,.int .i64 u.v1,.int .i64 u.v2,.int .i64 u.v3,.int .i64 u.v4,.int .i64 u.v5,.int .i64 u.w],.agg #[.bool m.a.s,.slice m.a.A m.a.n m.a.c,.slice m.a.B m.a.m m.a.d,.bool m.b.s,.slice m.b.A m.b.n m.b.c,.slice m.b.B m.b.m m.b.d,.bool m.c.s,.slice m.c.A m.c.n m.c.c,.slice m.c.B m.c.m m.c.d,.bool m.d.s,.slice m.d.A m.d.n m.d.c,.slice m.d.B m.d.m m.d.d,.bool m.e.s,.slice m.e.A m.e.n m.e.c,.slice m.e.B m.e.m m.e.d,.bool m.f.s,.slice m.f.A m.f.n m.f.c,.slice m.f.B m.f.m m.f.d]] w fun e w'=>e=.returned (.bool true)∧Below w.heap.size w w':=by
 have HL:Hid (decide ((n_p≤6∧m_p≤6)∧i_p≤6∧j_p≤6)=true):=decide_eq_true h1
 have HM:Hid (decide ((((m.a.n≤6∧m.a.m≤6)∧m.b.n≤6∧m.b.m≤6))∧(((m.c.n≤6∧m.c.m≤6)∧m.d.n≤6∧m.d.m≤6))∧(((m.e.n≤6∧m.e.m≤6)∧m.f.n≤6∧m.f.m≤6)))=true):=decide_eq_true h2
 have HD:=Lib.hid hd;clear h1 h2 _hin hd
 go_enter Tryz.func6,Tryz.ntmps6
 go_upto_region 1 with (fail)
 generalize hW:World.alloc _ _=W
 obtain ⟨hb,XF,XS,XM,hzW⟩:=mkbx38_14 hW;clear hW;replace M:=M.below hb;replace p:=p.below hb;obtain ⟨xf0,xf1,xf2,xf3,xf4,xf5⟩:=XF.all
 have ha:Below W.heap.size W (W.alloc (.cells #[.bool s_p,.slice A_p n_p c_p,.slice B_p m_p d_p,.bool t_p,.slice E_p i_p e_p,.slice F_p j_p f_p] 28)):=(Below.refl _ _).alloc (Nat.le_refl _) _
 have XL:=BL1.new' W (.bool s_p) (.slice A_p n_p c_p) (.slice B_p m_p d_p) (.bool t_p) (.slice E_p i_p e_p) (.slice F_p j_p f_p) (w.heap.size+3) hzW.symm
 replace M:=M.below ha;replace p:=p.below ha;replace XF:=XF.below ha;replace XS:=XS.below ha;replace XM:=XM.below ha;replace hb:=bend hb ha;clear ha
 go_upto_region 3 with (first
  | (go_at_call 8;(with_reducible refine (fair1 XL true HL.out).mono ?_);rintro e w_z ⟨rfl,hh⟩
     (try replace M:=M.below hh);(try replace p:=p.below hh);(try replace XF:=XF.below hh);(try replace XS:=XS.below hh);(try replace XM:=XM.below hh);replace hb:=bend hb hh;clear XL xf0 xf1 xf2 xf3 xf4 xf5;have xml:=XM.ld)
  | (go_at_call 9;(with_reducible refine (fairM true HM.out).mono ?_);rintro e w_y ⟨rfl,hh⟩
     (try replace M:=M.below hh);(try replace p:=p.below hh);(try replace XF:=XF.below hh);(try replace XS:=XS.below hh);(try replace XM:=XM.below hh);replace hb:=bend hb hh;clear xml))
 replace M:=M.below (Below.refl _ _).drew
 replace p:=p.below (Below.refl _ _).drew
 replace XF:=XF.below (Below.refl _ _).drew
 replace XS:=XS.below (Below.refl _ _).drew
 replace XM:=XM.below (Below.refl _ _).drew
 replace hb:=hb.drew
 go_region_held3 (fun w'=>w'.cell? ⟨w.heap.size,0,none⟩=some (.bool s_p)∧w'.cell? ⟨w.heap.size,1,none⟩=some (.slice A_p n_p c_p)∧w'.cell? ⟨w.heap.size,2,none⟩=some (.slice B_p m_p d_p)∧w'.cell? ⟨w.heap.size,3,none⟩=some (.bool t_p)∧w'.cell? ⟨w.heap.size,4,none⟩=some (.slice E_p i_p e_p)∧w'.cell? ⟨w.heap.size,5,none⟩=some (.slice F_p j_p f_p)∧w'.cell? ⟨w.heap.size+1,0,none⟩=some (.int .i64 u.k)∧w'.cell? ⟨w.heap.size+1,1,none⟩=some (.int .i64 u.v0)∧w'.cell? ⟨w.heap.size+1,2,none⟩=some (.int .i64 u.v1)∧w'.cell? ⟨w.heap.size+1,3,none⟩=some (.int .i64 u.v2)∧w'.cell? ⟨w.heap.size+1,4,none⟩=some (.int .i64 u.v3)∧w'.cell? ⟨w.heap.size+1,5,none⟩=some (.int .i64 u.v4)∧w'.cell? ⟨w.heap.size+1,6,none⟩=some (.int .i64 u.v5)∧w'.cell? ⟨w.heap.size+1,7,none⟩=some (.int .i64 u.w))
  (first | with_reducible exact ⟨XF.c0,XF.c1,XF.c2,XF.c3,XF.c4,XF.c5,XS.c0,XS.c1,XS.c2,XS.c3,XS.c4,XS.c5,XS.c6,XS.c7⟩)
  (first
  | (go_at_call 33;(with_reducible refine (mone_p _).mono ?_);rintro e w_o ⟨o,rfl,oh,hh⟩
     (try replace M:=M.below hh);(try replace p:=p.below hh);(try replace XF:=XF.below hh);(try replace XS:=XS.below hh);(try replace XM:=XM.below hh);replace hb:=bend hb hh)
  | (go_at_call 11;(with_reducible refine (cof_e u HD.out).mono ?_);rintro e w_a ⟨rfl,hh⟩
     (try replace M:=M.below hh);(try replace p:=p.below hh);(try replace XF:=XF.below hh);(try replace XS:=XS.below hh);(try replace XM:=XM.below hh);replace hb:=bend hb hh))
 obtain ⟨xf0,xf1,xf2,xf3,xf4,xf5⟩:=XF.all;obtain ⟨xs0,xs1,xs2,xs3,xs4,xs5,xs6,xs7⟩:=XS.all;have xml:=XM.ld
 go_wp2_with (first
  | (go_at_call 11;(with_reducible refine (cof_e u HD.out).mono ?_);rintro e w_b ⟨rfl,hh⟩
     (try replace M:=M.below hh);(try replace p:=p.below hh);(try replace XF:=XF.below hh);(try replace XS:=XS.below hh);(try replace XM:=XM.below hh);replace hb:=bend hb hh)
  | (go_at_call 10;(with_reducible refine (wakes13_any _).mono ?_);rintro e w_z ⟨rfl,hh⟩
     replace hb:=bend hb hh))
 go_ret;exact ⟨rfl,hb⟩
theorem maps_p {m:MV} (u:SV8) {v:AM} {fx fy:Rat} (M:MR w m v 6 6) (p:PR w s_p A_p n_p c_p B_p m_p d_p t_p E_p i_p e_p F_p j_p f_p fx fy 6) (h1:((n_p≤6∧m_p≤6)∧i_p≤6∧j_p≤6)) (h2:((((m.a.n≤6∧m.a.m≤6)∧m.b.n≤6∧m.b.m≤6))∧(((m.c.n≤6∧m.c.m≤6)∧m.d.n≤6∧m.d.m≤6))∧(((m.e.n≤6∧m.e.m≤6)∧m.f.n≤6∧m.f.m≤6)))) (hin:u.In) (hd:u.draws) :
 Calls Tryz.prog 6 #[.agg #[.bool s_p,.slice A_p n_p c_p,.slice B_p m_p d_p,.bool t_p,.slice E_p i_p e_p,.slice F_p j_p f_p],.agg #[.int .i64 u.k,.int .i64 u.v0,.int .i64 u.v1,.int .i64 u.v2,.int .i64 u.v3,.int .i64 u.v4,.int .i64 u.v5,.int .i64 u.w],.agg #[.bool m.a.s,.slice m.a.A m.a.n m.a.c,.slice m.a.B m.a.m m.a.d,.bool m.b.s,.slice m.b.A m.b.n m.b.c,.slice m.b.B m.b.m m.b.d,.bool m.c.s,.slice m.c.A m.c.n m.c.c,.slice m.c.B m.c.m m.c.d,.bool m.d.s,.slice m.d.A m.d.n m.d.c,.slice m.d.B m.d.m m.d.d,.bool m.e.s,.slice m.e.A m.e.n m.e.c,.slice m.e.B m.e.m m.e.d,.bool m.f.s,.slice m.f.A m.f.n m.f.c,.slice m.f.B m.f.m m.f.d]] w fun e w'=>e=.returned (.bool true)∧Below w.heap.size w w':=by
 have HL:Hid (decide ((n_p≤6∧m_p≤6)∧i_p≤6∧j_p≤6)=true):=decide_eq_true h1
 have HM:Hid (decide ((((m.a.n≤6∧m.a.m≤6)∧m.b.n≤6∧m.b.m≤6))∧(((m.c.n≤6∧m.c.m≤6)∧m.d.n≤6∧m.d.m≤6))∧(((m.e.n≤6∧m.e.m≤6)∧m.f.n≤6∧m.f.m≤6)))=true):=decide_eq_true h2
 have HD:=Lib.hid hd;have HIN:=Lib.hid hin
 have HSm:=Lib.hid (maps_at (v:=v) (x:=fx) (y:=fy) hd third_q)
 have HT3:=Lib.hid third_q;clear h1 h2 hin hd
 go_enter Tryz.func6,Tryz.ntmps6
 go_upto_region 1 with (fail)
 generalize hW:World.alloc _ _=W
 obtain ⟨hb,XF,XS,XM,hzW⟩:=mkbx38_14 hW;clear hW;replace M:=M.below hb;replace p:=p.below hb;obtain ⟨xf0,xf1,xf2,xf3,xf4,xf5⟩:=XF.all
 have ha:Below W.heap.size W (W.alloc (.cells #[.bool s_p,.slice A_p n_p c_p,.slice B_p m_p d_p,.bool t_p,.slice E_p i_p e_p,.slice F_p j_p f_p] 28)):=(Below.refl _ _).alloc (Nat.le_refl _) _
 have XL:=BL1.new' W (.bool s_p) (.slice A_p n_p c_p) (.slice B_p m_p d_p) (.bool t_p) (.slice E_p i_p e_p) (.slice F_p j_p f_p) (w.heap.size+3) hzW.symm
 replace M:=M.below ha;replace p:=p.below ha;replace XF:=XF.below ha;replace XS:=XS.below ha;replace XM:=XM.below ha;replace hb:=bend hb ha;clear ha
 go_upto_region 3 with (first
  | (go_at_call 8;(with_reducible refine (fair1 XL true HL.out).mono ?_);rintro e w_z ⟨rfl,hh⟩
     (try replace M:=M.below hh);(try replace p:=p.below hh);(try replace XF:=XF.below hh);(try replace XS:=XS.below hh);(try replace XM:=XM.below hh);replace hb:=bend hb hh;clear XL xf0 xf1 xf2 xf3 xf4 xf5;have xml:=XM.ld)
  | (go_at_call 9;(with_reducible refine (fairM true HM.out).mono ?_);rintro e w_y ⟨rfl,hh⟩
     (try replace M:=M.below hh);(try replace p:=p.below hh);(try replace XF:=XF.below hh);(try replace XS:=XS.below hh);(try replace XM:=XM.below hh);replace hb:=bend hb hh;clear xml))
 replace M:=M.below (Below.refl _ _).drew
 replace p:=p.below (Below.refl _ _).drew
 replace XF:=XF.below (Below.refl _ _).drew
 replace XS:=XS.below (Below.refl _ _).drew
 replace XM:=XM.below (Below.refl _ _).drew
 replace hb:=hb.drew
 go_region_held3 (fun w'=>w'.cell? ⟨w.heap.size,0,none⟩=some (.bool s_p)∧w'.cell? ⟨w.heap.size,1,none⟩=some (.slice A_p n_p c_p)∧w'.cell? ⟨w.heap.size,2,none⟩=some (.slice B_p m_p d_p)∧w'.cell? ⟨w.heap.size,3,none⟩=some (.bool t_p)∧w'.cell? ⟨w.heap.size,4,none⟩=some (.slice E_p i_p e_p)∧w'.cell? ⟨w.heap.size,5,none⟩=some (.slice F_p j_p f_p)∧w'.cell? ⟨w.heap.size+1,0,none⟩=some (.int .i64 u.k)∧w'.cell? ⟨w.heap.size+1,1,none⟩=some (.int .i64 u.v0)∧w'.cell? ⟨w.heap.size+1,2,none⟩=some (.int .i64 u.v1)∧w'.cell? ⟨w.heap.size+1,3,none⟩=some (.int .i64 u.v2)∧w'.cell? ⟨w.heap.size+1,4,none⟩=some (.int .i64 u.v3)∧w'.cell? ⟨w.heap.size+1,5,none⟩=some (.int .i64 u.v4)∧w'.cell? ⟨w.heap.size+1,6,none⟩=some (.int .i64 u.v5)∧w'.cell? ⟨w.heap.size+1,7,none⟩=some (.int .i64 u.w))
  (first | with_reducible exact ⟨XF.c0,XF.c1,XF.c2,XF.c3,XF.c4,XF.c5,XS.c0,XS.c1,XS.c2,XS.c3,XS.c4,XS.c5,XS.c6,XS.c7⟩)
  (first
  | (go_at_call 33;(with_reducible refine (mone_p _).mono ?_);rintro e w_o ⟨o,rfl,oh,hh⟩
     (try replace M:=M.below hh);(try replace p:=p.below hh);(try replace XF:=XF.below hh);(try replace XS:=XS.below hh);(try replace XM:=XM.below hh);replace hb:=bend hb hh)
  | (go_at_call 11;(with_reducible refine (cof_p u p oh.mr HIN.out (by decide) (by decide) (by decide) (by decide) (by decide) HD.out).mono ?_);rintro e w_a ⟨v1,M1,rfl,l1,e1,hh⟩
     (try replace M:=M.below hh);(try replace p:=p.below hh);(try replace XF:=XF.below hh);(try replace XS:=XS.below hh);(try replace XM:=XM.below hh);replace hb:=bend hb hh
     obtain ⟨A_x,c_x,rfl,_,_⟩:=l1.form
     have LM1:=l1.sv))
 obtain ⟨xf0,xf1,xf2,xf3,xf4,xf5⟩:=XF.all;obtain ⟨xs0,xs1,xs2,xs3,xs4,xs5,xs6,xs7⟩:=XS.all;have xml:=XM.ld;clear l1
 go_upto_region 5 with (first
  | (go_at_call 11;(with_reducible refine (cof_p u p M HIN.out (by decide) (by decide) (by decide) (by decide) (by decide) HD.out).mono ?_);rintro e w_b ⟨v2,M2,rfl,l2,e2,hh⟩
     clear p XF XS;(try replace M:=M.below hh);(try replace LM1:=LM1.below hh);(try replace XM:=XM.below hh);replace hb:=bend hb hh;replace e1:=EachH.belowG e1 hh
     obtain ⟨A_y,c_y,rfl,_,_⟩:=l2.form
     have LM2:=l2.sv))
 clear xf0;clear xf1;clear xf2;clear xf3;clear xf4;clear xf5;clear xs0;clear xs1;clear xs2;clear xs3;clear xs4;clear xs5;clear xs6;clear xs7;clear xml l2;have hE1:=e1.hr;have hE2:=e2.hr
 have hlen:M1.length=M2.length:=by rw [e1.1,e2.1,ofL_length,ofL_length]
 have HLE:=Lib.hid hlen;clear e1 e2 hlen
 go_upto_region 8 with (first
  | (go_at_call 31;(with_reducible refine (rof_q 1 3 (by decide) (by decide) (by decide) (by decide) (by decide) _).mono ?_);rintro e w_h ⟨s_h,A_h,n_h,c_h,B_h,m_h,d_h,rfl,h,hh⟩
     (try replace M:=M.below hh);(try replace LM1:=LM1.below hh);(try replace LM2:=LM2.below hh);(try replace XM:=XM.below hh);replace hb:=bend hb hh;replace hE1:=EachH.belowR hE1 hh;replace hE2:=EachH.belowR hE2 hh)
  | (go_at_call 21;(with_reducible refine (cat_any LM1 hE1 rfl h.qr (by decide) (by decide) (by decide) (by decide) (good_ofL HD.out) HT3.out (by decide) (B:=2000)).mono ?_);rintro e w_a ⟨s_a,A_a,n_a,c_a,B_a,m_a,d_a,t_a,E_a,i_a,e_a,F_a,j_a,f_a,rfl,a,hh⟩
     (try replace M:=M.below hh);(try replace LM1:=LM1.below hh);(try replace LM2:=LM2.below hh);(try replace XM:=XM.below hh);replace hb:=bend hb hh;replace hE1:=EachH.belowR hE1 hh;replace hE2:=EachH.belowR hE2 hh))
 clear h
 have XA:=B6.new' w_a (Value.bool s_a) (Value.slice A_a n_a c_a) (Value.slice B_a m_a d_a) (Value.bool t_a) (Value.slice E_a i_a e_a) (Value.slice F_a j_a f_a) w_a.heap.size rfl
 have hh:Below w_a.heap.size w_a (w_a.alloc (Obj.cells #[Value.bool s_a,Value.slice A_a n_a c_a,Value.slice B_a m_a d_a,Value.bool t_a,Value.slice E_a i_a e_a,Value.slice F_a j_a f_a] 28)):=(Below.refl w_a.heap.size w_a).alloc (Nat.le_refl _) _
 generalize (w_a.alloc (Obj.cells #[Value.bool s_a,Value.slice A_a n_a c_a,Value.slice B_a m_a d_a,Value.bool t_a,Value.slice E_a i_a e_a,Value.slice F_a j_a f_a] 28))=W1 at *
 replace M:=M.below hh;replace LM1:=LM1.below hh;replace LM2:=LM2.below hh;replace XM:=XM.below hh;replace a:=a.below hh;replace hE1:=EachH.belowR hE1 hh;replace hE2:=EachH.belowR hE2 hh;replace hb:=bend hb hh;clear hh
 go_upto_region 9 with (first
  | (go_at_call 31;(with_reducible refine (rof_q 1 3 (by decide) (by decide) (by decide) (by decide) (by decide) _).mono ?_);rintro e w_h ⟨s_h,A_h,n_h,c_h,B_h,m_h,d_h,rfl,h,hh⟩
     (try replace M:=M.below hh);(try replace LM1:=LM1.below hh);(try replace LM2:=LM2.below hh);(try replace XM:=XM.below hh);(try replace a:=a.below hh);(try replace XA:=XA.below hh);replace hb:=bend hb hh;replace hE1:=EachH.belowR hE1 hh;replace hE2:=EachH.belowR hE2 hh)
  | (go_at_call 21;(with_reducible refine (cat_any LM2 hE2 rfl h.qr (by decide) (by decide) (by decide) (by decide) (good_ofL HD.out) HT3.out (by decide) (B:=2000)).mono ?_);rintro e w_b ⟨s_b,A_b,n_b,c_b,B_b,m_b,d_b,t_b,E_b,i_b,e_b,F_b,j_b,f_b,rfl,b,hh⟩
     (try replace M:=M.below hh);(try replace LM1:=LM1.below hh);(try replace LM2:=LM2.below hh);(try replace XM:=XM.below hh);(try replace a:=a.below hh);(try replace XA:=XA.below hh);replace hb:=bend hb hh;replace hE1:=EachH.belowR hE1 hh;replace hE2:=EachH.belowR hE2 hh))
 clear h
 have XB:=B6.new' w_b (Value.bool s_b) (Value.slice A_b n_b c_b) (Value.slice B_b m_b d_b) (Value.bool t_b) (Value.slice E_b i_b e_b) (Value.slice F_b j_b f_b) w_b.heap.size rfl
 have hh:Below w_b.heap.size w_b (w_b.alloc (Obj.cells #[Value.bool s_b,Value.slice A_b n_b c_b,Value.slice B_b m_b d_b,Value.bool t_b,Value.slice E_b i_b e_b,Value.slice F_b j_b f_b] 28)):=(Below.refl w_b.heap.size w_b).alloc (Nat.le_refl _) _
 generalize (w_b.alloc (Obj.cells #[Value.bool s_b,Value.slice A_b n_b c_b,Value.slice B_b m_b d_b,Value.bool t_b,Value.slice E_b i_b e_b,Value.slice F_b j_b f_b] 28))=W2 at *
 replace M:=M.below hh;replace LM1:=LM1.below hh;replace LM2:=LM2.below hh;replace XM:=XM.below hh;replace a:=a.below hh;replace XA:=XA.below hh;replace b:=b.below hh;replace hE1:=EachH.belowR hE1 hh;replace hE2:=EachH.belowR hE2 hh;replace hb:=bend hb hh;clear hh;clear LM1 LM2 hE1 hE2
 have hlb:(M1.length:Int)=(M2.length:Int):=by rw [HLE.out]
 replace M:=M.below (Below.refl _ _).drew
 replace a:=a.below (Below.refl _ _).drew
 replace b:=b.below (Below.refl _ _).drew
 replace XM:=XM.below (Below.refl _ _).drew
 replace XA:=XA.below (Below.refl _ _).drew
 replace XB:=XB.below (Below.refl _ _).drew
 replace hb:=hb.drew
 refine wp_region_held_drew (S:=(fun w'=>(LVM ⟨w.heap.size+1+1,0,none⟩).run Tryz.prog w'=.ok (.agg #[.bool m.a.s,.slice m.a.A m.a.n m.a.c,.slice m.a.B m.a.m m.a.d,.bool m.b.s,.slice m.b.A m.b.n m.b.c,.slice m.b.B m.b.m m.b.d,.bool m.c.s,.slice m.c.A m.c.n m.c.c,.slice m.c.B m.c.m m.c.d,.bool m.d.s,.slice m.d.A m.d.n m.d.c,.slice m.d.B m.d.m m.d.d,.bool m.e.s,.slice m.e.A m.e.n m.e.c,.slice m.e.B m.e.m m.e.d,.bool m.f.s,.slice m.f.A m.f.n m.f.c,.slice m.f.B m.f.m m.f.d]) w'∧w'.cell? ⟨w_a.heap.size,0,none⟩=some (.bool s_a)∧w'.cell? ⟨w_a.heap.size,1,none⟩=some (.slice A_a n_a c_a)∧w'.cell? ⟨w_a.heap.size,2,none⟩=some (.slice B_a m_a d_a)∧w'.cell? ⟨w_a.heap.size,3,none⟩=some (.bool t_a)∧w'.cell? ⟨w_a.heap.size,4,none⟩=some (.slice E_a i_a e_a)∧w'.cell? ⟨w_a.heap.size,5,none⟩=some (.slice F_a j_a f_a)∧w'.cell? ⟨w_b.heap.size,0,none⟩=some (.bool s_b)∧w'.cell? ⟨w_b.heap.size,1,none⟩=some (.slice A_b n_b c_b)∧w'.cell? ⟨w_b.heap.size,2,none⟩=some (.slice B_b m_b d_b)∧w'.cell? ⟨w_b.heap.size,3,none⟩=some (.bool t_b)∧w'.cell? ⟨w_b.heap.size,4,none⟩=some (.slice E_b i_b e_b)∧w'.cell? ⟨w_b.heap.size,5,none⟩=some (.slice F_b j_b f_b))) (by kernel_rfl) (by with_reducible exact ⟨XM.ld,XA.c0,XA.c1,XA.c2,XA.c3,XA.c4,XA.c5,XB.c0,XB.c1,XB.c2,XB.c3,XB.c4,XB.c5⟩) (fun hHeld=>?_)
 refine wpAnyH_take (i:=0) (oi:=⟨some 73,.move (.tmp 12),38, "law.go:126",#[],none⟩) (v:=?_) rfl (by kernel_rfl) (by kernel_rfl) (by kernel_rfl) (fun _ _ _ h=>h) (Or.inl ⟨by rfl,?_⟩) hHeld ?_
 rotate_left
 · (intro w hSw;(try dsimp only at hSw);go_simp;try with_reducible rfl)
 simp only [Act.put,List.setIfInBounds_toArray,List.set_cons_zero,List.set_cons_succ]
 refine wpAnyH_take (i:=1) (oi:=⟨some 74,.binOp BinOp.eql 38 (.tmp 73) (.const (Value.int IntKind.i64 0)) 38,4, "law.go:126",#[⟨0,.data⟩],none⟩) (v:=?_) rfl (by kernel_rfl) (by kernel_rfl) (by kernel_rfl) (fun _ _ _ h=>h) (Or.inl ⟨by rfl,?_⟩) hHeld ?_
 rotate_left
 · (intro w hSw;(try dsimp only at hSw);go_simp;try with_reducible rfl)
 simp only [Act.put,List.setIfInBounds_toArray,List.set_cons_zero,List.set_cons_succ]
 refine wpAnyH_take (i:=2) (oi:=⟨some 75,.move (.tmp 74),4, "law.go:126",#[⟨1,.data⟩],none⟩) (v:=?_) rfl (by kernel_rfl) (by kernel_rfl) (by kernel_rfl) (fun _ _ _ h=>h) (Or.inl ⟨by rfl,?_⟩) hHeld ?_
 rotate_left
 · (intro w hSw;(try dsimp only at hSw);go_simp;try with_reducible rfl)
 simp only [Act.put,List.setIfInBounds_toArray,List.set_cons_zero,List.set_cons_succ]
 refine wpAnyH_take (i:=3) (oi:=⟨some 76,.move (.tmp 14),38, "law.go:126",#[⟨2,.guard⟩],some (2,true)⟩) (v:=?_) rfl (by kernel_rfl) (by kernel_rfl) (by kernel_rfl) (fun _ _ _ h=>h) (Or.inl ⟨by rfl,?_⟩) hHeld ?_
 rotate_left
 · (intro w hSw;(try dsimp only at hSw);go_simp;try with_reducible rfl)
 simp only [Act.put,List.setIfInBounds_toArray,List.set_cons_zero,List.set_cons_succ]
 refine wpAnyH_take (i:=4) (oi:=⟨some 77,.binOp BinOp.eql 38 (.tmp 76) (.const (Value.int IntKind.i64 0)) 38,4, "law.go:126",#[⟨3,.data⟩,⟨2,.guard⟩],some (2,true)⟩) (v:=?_) rfl (by kernel_rfl) (by kernel_rfl) (by kernel_rfl) (fun _ _ _ h=>h) (Or.inl ⟨by rfl,?_⟩) hHeld ?_
 rotate_left
 · (intro w hSw;(try dsimp only at hSw);go_simp;try with_reducible rfl)
 simp only [Act.put,List.setIfInBounds_toArray,List.set_cons_zero,List.set_cons_succ]
 refine wpAnyH_take (i:=5) (oi:=⟨some 78,.pick (.tmp 75) (.tmp 77) (.const (Value.bool false)),4, "law.go:126",#[⟨2,.data⟩,⟨4,.data⟩],none⟩) (v:=?_) rfl (by kernel_rfl) (by kernel_rfl) (by kernel_rfl) (fun _ _ _ h=>h) (Or.inl ⟨by rfl,?_⟩) hHeld ?_
 rotate_left
 · (intro w hSw;(try dsimp only at hSw);go_simp;try with_reducible rfl)
 simp only [Act.put,List.setIfInBounds_toArray,List.set_cons_zero,List.set_cons_succ]
 refine wpAnyH_take (i:=6) (oi:=⟨some 79,.move (.tmp 78),4, "law.go:126",#[⟨5,.data⟩,⟨2,.chain⟩],none⟩) (v:=?_) rfl (by kernel_rfl) (by kernel_rfl) (by kernel_rfl) (fun _ _ _ h=>h) (Or.inl ⟨by rfl,?_⟩) hHeld ?_
 rotate_left
 · (intro w hSw;(try dsimp only at hSw);go_simp;try with_reducible rfl)
 simp only [Act.put,List.setIfInBounds_toArray,List.set_cons_zero,List.set_cons_succ]
 refine wpAnyH_take (i:=7) (oi:=⟨some 80,.load 33 (.tmp 5),33, "law.go:126",#[⟨6,.guard⟩],some (6,true)⟩) (v:=?_) rfl (by kernel_rfl) (by kernel_rfl) (by kernel_rfl) (fun _ _ _ h=>h) (Or.inl ⟨by rfl,?_⟩) hHeld ?_
 rotate_left
 · (intro w hSw;(try dsimp only at hSw);go_simp;try with_reducible rfl)
 simp only [Act.put,List.setIfInBounds_toArray,List.set_cons_zero,List.set_cons_succ]
 refine wpAnyH_take (i:=8) (oi:=⟨some 81,.load 28 (.tmp 11),28, "law.go:126",#[⟨6,.guard⟩],some (6,true)⟩) (v:=?_) rfl (by kernel_rfl) (by kernel_rfl) (by kernel_rfl) (fun _ _ _ h=>h) (Or.inl ⟨by rfl,?_⟩) hHeld ?_
 rotate_left
 · (intro w hSw;(try dsimp only at hSw);go_simp;try with_reducible rfl)
 simp only [Act.put,List.setIfInBounds_toArray,List.set_cons_zero,List.set_cons_succ]
 refine wpAnyH_take (i:=10) (oi:=⟨some 83,.load 28 (.tmp 13),28, "law.go:126",#[⟨6,.guard⟩],some (6,true)⟩) (v:=?_) rfl (by kernel_rfl) (by kernel_rfl) (by kernel_rfl) (fun _ _ _ h=>h) (Or.inl ⟨by rfl,?_⟩) hHeld ?_
 rotate_left
 · (intro w hSw;(try dsimp only at hSw);go_simp;try with_reducible rfl)
 simp only [Act.put,List.setIfInBounds_toArray,List.set_cons_zero,List.set_cons_succ]
 refine wpAnyH_ready (rs:=[9]) (by kernel_rfl) (by simp) ?_
 refine AllReadyH.cons (o:=⟨some 82,.call ⟨.value (.func 34),#[.tmp 80,.tmp 81],#[33,28]⟩,28, "law.go:126",#[⟨7,.data⟩,⟨8,.data⟩,⟨6,.chain⟩,⟨6,.guard⟩],some (6,true)⟩) rfl (fun K1 hK1=>?_) AllReadyH.nil
 go_simp
 first
 | (go_at_call 34;(with_reducible refine (mapply_p M a.pr (by decide) (by decide) (by decide) (by decide) (by decide)).mono ?_);rintro e w_q ⟨s_q,A_q,n_q,c_q,B_q,m_q,d_q,t_q,E_q,i_q,e_q,F_q,j_q,f_q,rfl,q,hh⟩
    (try replace M:=M.below hh);(try replace a:=a.below hh);(try replace b:=b.below hh);(try replace XM:=XM.below hh);(try replace XA:=XA.below hh);(try replace XB:=XB.below hh);replace hb:=bend hb hh)
 | (go_at_call 32;(with_reducible refine (psame_p q.pr b.pr (by decide) (by decide) (by decide) (by decide) true HSm.out).mono ?_);rintro e w_z ⟨rfl,hh⟩
    (try replace M:=M.below hh);(try replace a:=a.below hh);(try replace b:=b.below hh);(try replace XM:=XM.below hh);(try replace XA:=XA.below hh);(try replace XB:=XB.below hh);replace hb:=bend hb hh)
 | (go_at_call 10;(with_reducible refine (wakes13_any _).mono ?_);rintro e w_k ⟨rfl,hh⟩
    (try replace M:=M.below hh);(try replace a:=a.below hh);(try replace b:=b.below hh);(try replace XM:=XM.below hh);(try replace XA:=XA.below hh);(try replace XB:=XB.below hh);replace hb:=bend hb hh)
 refine hK1.out _ _ (by with_reducible exact ⟨XM.ld,XA.c0,XA.c1,XA.c2,XA.c3,XA.c4,XA.c5,XB.c0,XB.c1,XB.c2,XB.c3,XB.c4,XB.c5⟩) (fun hHeld=>?_)
 clear hK1 K1
 refine wpAnyH_ready (rs:=[11]) (by kernel_rfl) (by simp) ?_
 refine AllReadyH.cons (o:=⟨some 84,.call ⟨.value (.func 32),#[.tmp 82,.tmp 83],#[28,28]⟩,4, "law.go:126",#[⟨9,.data⟩,⟨10,.data⟩,⟨9,.chain⟩,⟨6,.guard⟩],some (6,true)⟩) rfl (fun K1 hK1=>?_) AllReadyH.nil
 go_simp
 first
 | (go_at_call 34;(with_reducible refine (mapply_p M a.pr (by decide) (by decide) (by decide) (by decide) (by decide)).mono ?_);rintro e w_q ⟨s_q,A_q,n_q,c_q,B_q,m_q,d_q,t_q,E_q,i_q,e_q,F_q,j_q,f_q,rfl,q,hh⟩
    (try replace M:=M.below hh);(try replace a:=a.below hh);(try replace b:=b.below hh);(try replace XM:=XM.below hh);(try replace XA:=XA.below hh);(try replace XB:=XB.below hh);replace hb:=bend hb hh)
 | (go_at_call 32;(with_reducible refine (psame_p q.pr b.pr (by decide) (by decide) (by decide) (by decide) true HSm.out).mono ?_);rintro e w_z ⟨rfl,hh⟩
    (try replace M:=M.below hh);(try replace a:=a.below hh);(try replace b:=b.below hh);(try replace XM:=XM.below hh);(try replace XA:=XA.below hh);(try replace XB:=XB.below hh);replace hb:=bend hb hh)
 | (go_at_call 10;(with_reducible refine (wakes13_any _).mono ?_);rintro e w_k ⟨rfl,hh⟩
    (try replace M:=M.below hh);(try replace a:=a.below hh);(try replace b:=b.below hh);(try replace XM:=XM.below hh);(try replace XA:=XA.below hh);(try replace XB:=XB.below hh);replace hb:=bend hb hh)
 refine hK1.out _ _ (by with_reducible exact ⟨XM.ld,XA.c0,XA.c1,XA.c2,XA.c3,XA.c4,XA.c5,XB.c0,XB.c1,XB.c2,XB.c3,XB.c4,XB.c5⟩) (fun hHeld=>?_)
 clear hK1 K1
 refine wpAnyH_take (i:=12) (oi:=⟨some 85,.pick (.tmp 79) (.tmp 84) (.const (Value.bool false)),4, "law.go:126",#[⟨6,.data⟩,⟨11,.data⟩],none⟩) (v:=?_) rfl (by kernel_rfl) (by kernel_rfl) (by kernel_rfl) (fun _ _ _ h=>h) (Or.inl ⟨by rfl,?_⟩) hHeld ?_
 rotate_left
 · (intro w hSw;(try dsimp only at hSw);go_simp;try with_reducible rfl)
 simp only [Act.put,List.setIfInBounds_toArray,List.set_cons_zero,List.set_cons_succ]
 refine wpAnyH_take (i:=13) (oi:=⟨some 86,.move (.tmp 85),4, "law.go:126",#[⟨12,.data⟩,⟨11,.chain⟩],none⟩) (v:=?_) rfl (by kernel_rfl) (by kernel_rfl) (by kernel_rfl) (fun _ _ _ h=>h) (Or.inl ⟨by rfl,?_⟩) hHeld ?_
 rotate_left
 · (intro w hSw;(try dsimp only at hSw);go_simp;try with_reducible rfl)
 simp only [Act.put,List.setIfInBounds_toArray,List.set_cons_zero,List.set_cons_succ]
 refine wpAnyH_take (i:=14) (oi:=⟨some 87,.move (.tmp 7),37, "law.go:126",#[⟨13,.guard⟩],some (13,true)⟩) (v:=?_) rfl (by kernel_rfl) (by kernel_rfl) (by kernel_rfl) (fun _ _ _ h=>h) (Or.inl ⟨by rfl,?_⟩) hHeld ?_
 rotate_left
 · (intro w hSw;(try dsimp only at hSw);go_simp;try with_reducible rfl)
 simp only [Act.put,List.setIfInBounds_toArray,List.set_cons_zero,List.set_cons_succ]
 refine wpAnyH_take (i:=15) (oi:=⟨some 88,.call ⟨.builtin Builtin.len,#[.tmp 87],#[37]⟩,3, "law.go:126",#[⟨14,.data⟩,⟨13,.guard⟩],some (13,true)⟩) (v:=?_) rfl (by kernel_rfl) (by kernel_rfl) (by kernel_rfl) (fun _ _ _ h=>h) (Or.inl ⟨by rfl,?_⟩) hHeld ?_
 rotate_left
 · (intro w hSw;(try dsimp only at hSw);go_simp;try with_reducible rfl)
 simp only [Act.put,List.setIfInBounds_toArray,List.set_cons_zero,List.set_cons_succ]
 refine wpAnyH_take (i:=16) (oi:=⟨some 89,.move (.tmp 9),37, "law.go:126",#[⟨13,.guard⟩],some (13,true)⟩) (v:=?_) rfl (by kernel_rfl) (by kernel_rfl) (by kernel_rfl) (fun _ _ _ h=>h) (Or.inl ⟨by rfl,?_⟩) hHeld ?_
 rotate_left
 · (intro w hSw;(try dsimp only at hSw);go_simp;try with_reducible rfl)
 simp only [Act.put,List.setIfInBounds_toArray,List.set_cons_zero,List.set_cons_succ]
 refine wpAnyH_take (i:=17) (oi:=⟨some 90,.call ⟨.builtin Builtin.len,#[.tmp 89],#[37]⟩,3, "law.go:126",#[⟨16,.data⟩,⟨13,.guard⟩],some (13,true)⟩) (v:=?_) rfl (by kernel_rfl) (by kernel_rfl) (by kernel_rfl) (fun _ _ _ h=>h) (Or.inl ⟨by rfl,?_⟩) hHeld ?_
 rotate_left
 · (intro w hSw;(try dsimp only at hSw);go_simp;try with_reducible rfl)
 simp only [Act.put,List.setIfInBounds_toArray,List.set_cons_zero,List.set_cons_succ]
 refine wpAnyH_take (i:=18) (oi:=⟨some 91,.binOp BinOp.eql 3 (.tmp 88) (.tmp 90) 3,4, "law.go:126",#[⟨15,.data⟩,⟨17,.data⟩,⟨13,.guard⟩],some (13,true)⟩) (v:=?_) rfl (by kernel_rfl) (by kernel_rfl) (by kernel_rfl) (fun _ _ _ h=>h) (Or.inl ⟨by rfl,?_⟩) hHeld ?_
 rotate_left
 · (intro w hSw;(try dsimp only at hSw);go_simp;try with_reducible rfl)
 simp only [Act.put,List.setIfInBounds_toArray,List.set_cons_zero,List.set_cons_succ]
 refine wpAnyH_take (i:=19) (oi:=⟨some 92,.pick (.tmp 86) (.tmp 91) (.const (Value.bool false)),4, "law.go:126",#[⟨13,.data⟩,⟨18,.data⟩],none⟩) (v:=?_) rfl (by kernel_rfl) (by kernel_rfl) (by kernel_rfl) (fun _ _ _ h=>h) (Or.inl ⟨by rfl,?_⟩) hHeld ?_
 rotate_left
 · (intro w hSw;(try dsimp only at hSw);go_simp;try with_reducible rfl)
 simp only [Act.put,List.setIfInBounds_toArray,List.set_cons_zero,List.set_cons_succ]
 refine wpAnyH_take (i:=20) (oi:=⟨some 93,.move (.tmp 92),4, "law.go:126",#[⟨19,.data⟩,⟨13,.chain⟩],none⟩) (v:=?_) rfl (by kernel_rfl) (by kernel_rfl) (by kernel_rfl) (fun _ _ _ h=>h) (Or.inl ⟨by rfl,?_⟩) hHeld ?_
 rotate_left
 · (intro w hSw;(try dsimp only at hSw);go_simp;try with_reducible rfl)
 simp only [Act.put,List.setIfInBounds_toArray,List.set_cons_zero,List.set_cons_succ]
 refine wpAnyH_ready (rs:=[21]) (by kernel_rfl) (by simp) ?_
 refine AllReadyH.cons (o:=⟨some 94,.call ⟨.value (.func 10),#[],#[]⟩,4, "law.go:126",#[⟨20,.chain⟩,⟨20,.guard⟩],some (20,true)⟩) rfl (fun K1 hK1=>?_) AllReadyH.nil
 go_simp
 first
 | (go_at_call 34;(with_reducible refine (mapply_p M a.pr (by decide) (by decide) (by decide) (by decide) (by decide)).mono ?_);rintro e w_q ⟨s_q,A_q,n_q,c_q,B_q,m_q,d_q,t_q,E_q,i_q,e_q,F_q,j_q,f_q,rfl,q,hh⟩
    (try replace M:=M.below hh);(try replace a:=a.below hh);(try replace b:=b.below hh);(try replace XM:=XM.below hh);(try replace XA:=XA.below hh);(try replace XB:=XB.below hh);replace hb:=bend hb hh)
 | (go_at_call 32;(with_reducible refine (psame_p q.pr b.pr (by decide) (by decide) (by decide) (by decide) true HSm.out).mono ?_);rintro e w_z ⟨rfl,hh⟩
    (try replace M:=M.below hh);(try replace a:=a.below hh);(try replace b:=b.below hh);(try replace XM:=XM.below hh);(try replace XA:=XA.below hh);(try replace XB:=XB.below hh);replace hb:=bend hb hh)
 | (go_at_call 10;(with_reducible refine (wakes13_any _).mono ?_);rintro e w_k ⟨rfl,hh⟩
    (try replace M:=M.below hh);(try replace a:=a.below hh);(try replace b:=b.below hh);(try replace XM:=XM.below hh);(try replace XA:=XA.below hh);(try replace XB:=XB.below hh);replace hb:=bend hb hh)
 refine hK1.out _ _ (by with_reducible exact ⟨XM.ld,XA.c0,XA.c1,XA.c2,XA.c3,XA.c4,XA.c5,XB.c0,XB.c1,XB.c2,XB.c3,XB.c4,XB.c5⟩) (fun hHeld=>?_)
 clear hK1 K1
 refine wpAnyH_take (i:=22) (oi:=⟨some 95,.pick (.tmp 93) (.tmp 94) (.const (Value.bool false)),4, "law.go:126",#[⟨20,.data⟩,⟨21,.data⟩],none⟩) (v:=?_) rfl (by kernel_rfl) (by kernel_rfl) (by kernel_rfl) (fun _ _ _ h=>h) (Or.inl ⟨by rfl,?_⟩) hHeld ?_
 rotate_left
 · (intro w hSw;(try dsimp only at hSw);go_simp;try with_reducible rfl)
 simp only [Act.put,List.setIfInBounds_toArray,List.set_cons_zero,List.set_cons_succ]
 refine wpAnyH_take (i:=23) (oi:=⟨some 6,.assign (.tmp 95),4, "law.go:126",#[⟨22,.data⟩,⟨21,.chain⟩,⟨0,.phase⟩,⟨1,.phase⟩,⟨2,.phase⟩,⟨3,.phase⟩,⟨4,.phase⟩,⟨5,.phase⟩,⟨6,.phase⟩,⟨7,.phase⟩,⟨8,.phase⟩,⟨9,.phase⟩,⟨10,.phase⟩,⟨11,.phase⟩,⟨12,.phase⟩,⟨13,.phase⟩,⟨14,.phase⟩,⟨15,.phase⟩,⟨16,.phase⟩,⟨17,.phase⟩,⟨18,.phase⟩,⟨19,.phase⟩,⟨20,.phase⟩,⟨21,.phase⟩,⟨22,.phase⟩],none⟩) (v:=?_) rfl (by kernel_rfl) (by kernel_rfl) (by kernel_rfl) (fun _ _ _ h=>h) (Or.inl ⟨by rfl,?_⟩) hHeld ?_
 rotate_left
 · (intro w hSw;(try dsimp only at hSw);go_simp;try with_reducible rfl)
 simp only [Act.put,List.setIfInBounds_toArray,List.set_cons_zero,List.set_cons_succ]
 refine wpAnyH_done (by kernel_rfl) ?_ _
 go_wp2_with fail
 go_ret;exact ⟨rfl,hb⟩
end
section
open Go Go.ChangeShapes Go.WideShapes Go.ChangeAt Go.RowKit
theorem open_rat3 {H:Type} {enc:TypeId × Value→H} {base fuel:Nat} {held:Bool} {x0 x1 x2:Value} {y:DataW H × List MemPlace}
 (h:DataW.trod enc Tryz.prog w base (fun _=>true) held fuel 26 [x0,x1,x2]=some y) :
 ∃ (q:QV) (zs ys:List Int),x0=.bool q.s∧x1=.slice q.A q.n q.c∧x2=.slice q.B q.m q.d∧IsRow64 w q.A q.n q.c zs∧IsRow64 w q.B q.m q.d ys:=by
 have e0:Tryz.prog.cellsOf 24=2:=by kernel_rfl
 have e1:Tryz.prog.cellsOf 22=1:=by kernel_rfl
 have e2:Tryz.prog.cellsOf 4=1:=by kernel_rfl
 obtain ⟨z0,z1,m,hx2,_,h2,h3⟩:=trod_struct2 Tryz.underlying26 h
 simp [e0] at h2
 simp [e1] at h3
 obtain ⟨u0,u1,k,hx4,_,h6,h7⟩:=trod_struct2 Tryz.underlying24 h2
 simp [e2] at h6
 simp [e1] at h7
 obtain ⟨b,hb,_⟩:=DataW.trod_bool Tryz.underlying4 h6
 cases hb
 obtain ⟨A1,n1,c1,zs1,rfl,r1⟩:∃ A n c zs,x1=.slice A n c∧IsRow64 w A n c zs:=by
  rcases open_ints Tryz.underlying22 Tryz.underlying101 (by kernel_rfl) h7 with ⟨hcs,_⟩ | ⟨x,l,c,zs,hcs,_,hl,hm,hz,_,hcell,hwz⟩
  · exact ⟨none,0,0,[],by cases hcs;rfl,.inl ⟨rfl,rfl,rfl,rfl⟩⟩
  · exact ⟨some x,l,c,zs,by cases hcs;rfl,.inr ⟨x,rfl,hl,hm,by simpa using hz,hcell,hwz⟩⟩
 obtain ⟨A2,n2,c2,zs2,rfl,r2⟩:∃ A n c zs,x2=.slice A n c∧IsRow64 w A n c zs:=by
  rcases open_ints Tryz.underlying22 Tryz.underlying101 (by kernel_rfl) h3 with ⟨hcs,_⟩ | ⟨x,l,c,zs,hcs,_,hl,hm,hz,_,hcell,hwz⟩
  · exact ⟨none,0,0,[],by cases hcs;rfl,.inl ⟨rfl,rfl,rfl,rfl⟩⟩
  · exact ⟨some x,l,c,zs,by cases hcs;rfl,.inr ⟨x,rfl,hl,hm,by simpa using hz,hcell,hwz⟩⟩
 exact ⟨⟨_,A1,n1,c1,A2,n2,c2⟩,zs1,zs2,rfl,rfl,rfl,r1,r2⟩
def MRows (w:World) (m:MV):Prop:=(∃ zs,IsRow64 w m.a.A m.a.n m.a.c zs)∧(∃ zs,IsRow64 w m.a.B m.a.m m.a.d zs)∧(∃ zs,IsRow64 w m.b.A m.b.n m.b.c zs)∧(∃ zs,IsRow64 w m.b.B m.b.m m.b.d zs)∧(∃ zs,IsRow64 w m.c.A m.c.n m.c.c zs)∧(∃ zs,IsRow64 w m.c.B m.c.m m.c.d zs)∧(∃ zs,IsRow64 w m.d.A m.d.n m.d.c zs)∧(∃ zs,IsRow64 w m.d.B m.d.m m.d.d zs)∧(∃ zs,IsRow64 w m.e.A m.e.n m.e.c zs)∧(∃ zs,IsRow64 w m.e.B m.e.m m.e.d zs)∧(∃ zs,IsRow64 w m.f.A m.f.n m.f.c zs)∧(∃ zs,IsRow64 w m.f.B m.f.m m.f.d zs)
theorem open_zmat {H:Type} {enc:TypeId × Value→H} {base:Nat} {held:Bool} {r:Reach} {b0:Nat} {v:Value} {d:DataW H} {p:List MemPlace}
 (hv:Value.okWide Tryz.prog w r b0 33 v) (h:DataW.Trod enc Tryz.prog w base (fun _=>true) held 33 v d p) :
 ∃ m:MV,v=.agg #[.bool m.a.s,.slice m.a.A m.a.n m.a.c,.slice m.a.B m.a.m m.a.d,.bool m.b.s,.slice m.b.A m.b.n m.b.c,.slice m.b.B m.b.m m.b.d,.bool m.c.s,.slice m.c.A m.c.n m.c.c,.slice m.c.B m.c.m m.c.d,.bool m.d.s,.slice m.d.A m.d.n m.d.c,.slice m.d.B m.d.m m.d.d,.bool m.e.s,.slice m.e.A m.e.n m.e.c,.slice m.e.B m.e.m m.e.d,.bool m.f.s,.slice m.f.A m.f.n m.f.c,.slice m.f.B m.f.m m.f.d]∧MRows w m:=by
 have e3:Tryz.prog.cellsOf 26=3:=by kernel_rfl
 obtain ⟨cs,rfl,hsz⟩:=okWide_struct Tryz.underlying33 hv
 have hsz18:cs.size=18:=hsz.trans (by kernel_rfl)
 obtain ⟨x0,x1,x2,x3,x4,x5,x6,x7,x8,x9,x10,x11,x12,x13,x14,x15,x16,x17,rfl⟩:∃ x0 x1 x2 x3 x4 x5 x6 x7 x8 x9 x10 x11 x12 x13 x14 x15 x16 x17,cs=#[x0,x1,x2,x3,x4,x5,x6,x7,x8,x9,x10,x11,x12,x13,x14,x15,x16,x17]:=by
  obtain ⟨l⟩:=cs
  match l,hsz18 with
  | [x0,x1,x2,x3,x4,x5,x6,x7,x8,x9,x10,x11,x12,x13,x14,x15,x16,x17],_=>exact ⟨x0,x1,x2,x3,x4,x5,x6,x7,x8,x9,x10,x11,x12,x13,x14,x15,x16,x17,rfl⟩
 obtain ⟨fuel,hf⟩:=h
 obtain ⟨xs,n,_,_,_,hlen,hi⟩:=DataW.trod_struct Tryz.underlying33 hf
 match xs,hlen with
 | [y0,y1,y2,y3,y4,y5],_ =>
   have h0:=hi 0 _ rfl
   simp [Value.cells,e3] at h0
   have h1:=hi 1 _ rfl
   simp [Value.cells,e3] at h1
   have h2:=hi 2 _ rfl
   simp [Value.cells,e3] at h2
   have h3:=hi 3 _ rfl
   simp [Value.cells,e3] at h3
   have h4:=hi 4 _ rfl
   simp [Value.cells,e3] at h4
   have h5:=hi 5 _ rfl
   simp [Value.cells,e3] at h5
   obtain ⟨q0,z0,s0,rfl,rfl,rfl,r0,t0⟩:=open_rat3 h0
   obtain ⟨q1,z1,s1,rfl,rfl,rfl,r1,t1⟩:=open_rat3 h1
   obtain ⟨q2,z2,s2,rfl,rfl,rfl,r2,t2⟩:=open_rat3 h2
   obtain ⟨q3,z3,s3,rfl,rfl,rfl,r3,t3⟩:=open_rat3 h3
   obtain ⟨q4,z4,s4,rfl,rfl,rfl,r4,t4⟩:=open_rat3 h4
   obtain ⟨q5,z5,s5,rfl,rfl,rfl,r5,t5⟩:=open_rat3 h5
   exact ⟨⟨q0,q1,q2,q3,q4,q5⟩,rfl,⟨z0,r0⟩,⟨s0,t0⟩,⟨z1,r1⟩,⟨s1,t1⟩,⟨z2,r2⟩,⟨s2,t2⟩,⟨z3,r3⟩,⟨s3,t3⟩,⟨z4,r4⟩,⟨s4,t4⟩,⟨z5,r5⟩,⟨s5,t5⟩⟩
theorem MRows.mr {m:MV} (h:MRows w m):∃ v:AM,((((m.a.n≤6∧m.a.m≤6)∧m.b.n≤6∧m.b.m≤6)∧(((m.c.n≤6∧m.c.m≤6)∧m.d.n≤6∧m.d.m≤6))∧(((m.e.n≤6∧m.e.m≤6)∧m.f.n≤6∧m.f.m≤6)))→MR w m v 6 6):=by
 obtain ⟨⟨_,ra⟩,⟨_,ta⟩,⟨_,rb⟩,⟨_,tb⟩,⟨_,rc⟩,⟨_,tc⟩,⟨_,rd⟩,⟨_,td⟩,⟨_,re⟩,⟨_,te⟩,⟨_,rf⟩,⟨_,tf⟩⟩:=h
 obtain ⟨lia,pa,sa,ea,_⟩:=ra.rd
 obtain ⟨lja,qa,ua,ga,_⟩:=ta.rd
 obtain ⟨lib,pb,sb,eb,_⟩:=rb.rd
 obtain ⟨ljb,qb,ub,gb,_⟩:=tb.rd
 obtain ⟨lic,pc,sc,ec,_⟩:=rc.rd
 obtain ⟨ljc,qc,uc,gc,_⟩:=tc.rd
 obtain ⟨lid,pd,sd,ed,_⟩:=rd.rd
 obtain ⟨ljd,qd,ud,gd,_⟩:=td.rd
 obtain ⟨lie,pe,se,ee,_⟩:=re.rd
 obtain ⟨lje,qe,ue,ge,_⟩:=te.rd
 obtain ⟨lif,pf,sf,ef,_⟩:=rf.rd
 obtain ⟨ljf,qf,uf,gf,_⟩:=tf.rd
 exact ⟨⟨_,_,_,_,_,_⟩,fun k=>⟨⟨QR.of_rd pa sa ea qa ua ga k.1.1.1 k.1.1.2,QR.of_rd pb sb eb qb ub gb k.1.2.1 k.1.2.2⟩,⟨QR.of_rd pc sc ec qc uc gc k.2.1.1.1 k.2.1.1.2,QR.of_rd pd sd ed qd ud gd k.2.1.2.1 k.2.1.2.2⟩,⟨QR.of_rd pe se ee qe ue ge k.2.2.1.1 k.2.2.1.2,QR.of_rd pf sf ef qf uf gf k.2.2.2.1 k.2.2.2.2⟩⟩⟩
end
section
open Go Go.ChangeShapes Go.WideShapes Go.ChangeAt Go.RowKit
theorem i64_of {x:Int} (h:-9223372036854775808≤x∧x≤9223372036854775807):i64In x:=⟨h.1,by have:=h.2;omega⟩
theorem open_zseg {H:Type} {enc:TypeId × Value→H} {base:Nat} {held:Bool} {r:Reach} {b0:Nat} {v:Value} {d:DataW H} {p:List MemPlace}
 (hv:Value.okWide Tryz.prog w r b0 31 v) (h:DataW.Trod enc Tryz.prog w base (fun _=>true) held 31 v d p) :
 ∃ u:SV8,v=.agg #[.int .i64 u.k,.int .i64 u.v0,.int .i64 u.v1,.int .i64 u.v2,.int .i64 u.v3,.int .i64 u.v4,.int .i64 u.v5,.int .i64 u.w]∧u.In:=by
 have e0:Tryz.prog.cellsOf 3=1:=by kernel_rfl
 have e1:Tryz.prog.cellsOf 2=1:=by kernel_rfl
 have e6:Tryz.prog.cellsOf 29=6:=by kernel_rfl
 obtain ⟨cs,rfl,hsz⟩:=okWide_struct Tryz.underlying31 hv
 have hsz8:cs.size=8:=hsz.trans (by kernel_rfl)
 obtain ⟨x0,x1,x2,x3,x4,x5,x6,x7,rfl⟩:∃ x0 x1 x2 x3 x4 x5 x6 x7,cs=#[x0,x1,x2,x3,x4,x5,x6,x7]:=by
  obtain ⟨l⟩:=cs
  match l,hsz8 with
  | [x0,x1,x2,x3,x4,x5,x6,x7],_=>exact ⟨x0,x1,x2,x3,x4,x5,x6,x7,rfl⟩
 obtain ⟨fuel,hf⟩:=h
 obtain ⟨zs,m,_,_,_,hzl,hzf⟩:=DataW.trod_struct Tryz.underlying31 hf
 match zs,hzl with
 | [z0,z1,z2],_ =>
   have h2:=hzf 0 _ rfl;have h3:=hzf 1 _ rfl;have h4:=hzf 2 _ rfl
   simp [Value.cells,e0] at h2
   simp [Value.cells,e6] at h3
   simp [Value.cells,e1] at h4
   obtain ⟨k,hk,_,wk⟩:=DataW.trod_int Tryz.underlying3 h2
   obtain ⟨wt,hw,_,ww⟩:=DataW.trod_int Tryz.underlying2 h4
   cases hk
   cases hw
   obtain ⟨xs,m,_,hx,_,hl,hi⟩:=DataW.trod_array Tryz.underlying29 h3
   have i0:=hi 0 (by decide)
   have i1:=hi 1 (by decide)
   have i2:=hi 2 (by decide)
   have i3:=hi 3 (by decide)
   have i4:=hi 4 (by decide)
   have i5:=hi 5 (by decide)
   match xs,hl with
   | [y0,y1,y2,y3,y4,y5],_ =>
     simp [e1] at i0 i1 i2 i3 i4 i5
     obtain ⟨n0,q0,_,w0⟩:=DataW.trod_int Tryz.underlying2 i0
     obtain ⟨n1,q1,_,w1⟩:=DataW.trod_int Tryz.underlying2 i1
     obtain ⟨n2,q2,_,w2⟩:=DataW.trod_int Tryz.underlying2 i2
     obtain ⟨n3,q3,_,w3⟩:=DataW.trod_int Tryz.underlying2 i3
     obtain ⟨n4,q4,_,w4⟩:=DataW.trod_int Tryz.underlying2 i4
     obtain ⟨n5,q5,_,w5⟩:=DataW.trod_int Tryz.underlying2 i5
     cases q0;cases q1;cases q2;cases q3;cases q4;cases q5
     refine ⟨⟨k,n0,n1,n2,n3,n4,n5,wt⟩,rfl,i64_of (bounds_i64 wk),fun i=>?_,i64_of (bounds_i64 ww)⟩
     match i with
     | 0=>exact i64_of (bounds_i64 w0)
     | 1=>exact i64_of (bounds_i64 w1)
     | 2=>exact i64_of (bounds_i64 w2)
     | 3=>exact i64_of (bounds_i64 w3)
     | 4=>exact i64_of (bounds_i64 w4)
     | i+5=>exact i64_of (bounds_i64 w5)
end
end Go.Proofs.YtananlhdmekmjaaGreat
