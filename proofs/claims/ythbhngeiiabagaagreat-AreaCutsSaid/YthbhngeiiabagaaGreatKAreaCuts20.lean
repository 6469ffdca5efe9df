/- AreaCuts: part 20. -/
import Derived.Test.YthbhngeiiabagaaGreatKAreaCuts19
set_option linter.unusedVariables false
set_option maxRecDepth 100000
set_option maxHeartbeats 16000000
variable {w:Go.World}
variable {s_p t_p:Bool} {A_p B_p E_p F_p:Option Go.Addr} {n_p c_p m_p d_p i_p e_p j_p f_p:Nat}
variable {s_q t_q:Bool} {A_q B_q E_q F_q:Option Go.Addr} {n_q c_q m_q d_q i_q e_q j_q f_q:Nat}
variable {s_r t_r:Bool} {A_r B_r E_r F_r:Option Go.Addr} {n_r c_r m_r d_r i_r e_r j_r f_r:Nat}
namespace Go.Proofs.YthbhngeiiabagaaGreat
section
open Go Go.RowKit
theorem QeI {w W:World} {x0 x1 x2 x3 x4 x5 x6 x7 x8 x9 x10 x11 x12 x13 x14 x15 x16 x17:Value} (h:(w.alloc (Obj.cells #[x0,x1,x2,x3,x4,x5,x6,x7,x8,x9,x10,x11,x12,x13,x14,x15,x16,x17] 30))=W):Below w.heap.size w W∧BA3 W (w.heap.size) x0 x1 x2 x3 x4 x5 x6 x7 x8 x9 x10 x11 x12 x13 x14 x15 x16 x17∧W.heap.size=w.heap.size+1:=by subst h;exact ⟨by exact ((Below.refl _ _).alloc (Nat.le_refl _) _),by exact BA3.new' _ _ _ _ _ _ _ _ _ _ _ _ _ _ _ _ _ _ _ _ rfl,by simp⟩
theorem Qq3 {A:Option Addr} {n c:Nat} (HFB:∀ {W:World},Below w.heap.size w W→Calls Tryz.prog 4 #[.slice A n c,.int .i64 8] W fun e w'=>e=.returned (.bool false)∧Below W.heap.size W w') :
 Calls Tryz.prog 3 #[.slice A n c,.agg #[.bool s_p,.slice A_p n_p c_p,.slice B_p m_p d_p,.bool t_p,.slice E_p i_p e_p,.slice F_p j_p f_p,.bool s_q,.slice A_q n_q c_q,.slice B_q m_q d_q,.bool t_q,.slice E_q i_q e_q,.slice F_q j_q f_q,.bool s_r,.slice A_r n_r c_r,.slice B_r m_r d_r,.bool t_r,.slice E_r i_r e_r,.slice F_r j_r f_r]] w fun e w'=>e=.returned (.bool true)∧Below w.heap.size w w':=by
 go_enter Tryz.func3,Tryz.ntmps3
 go_upto_region 1 with (fail)
 generalize hW:World.alloc _ _=W
 obtain ⟨hb,XL0,hzW⟩:=QeI hW;clear hW
 refine QdB (by simp) rfl XL0 ?_
 intro V w_1 g_a g_b g_c XA hg_a hva XB hg_b hvb XC hg_c hvc hne1 hne2 hne3 hh
 simp only [Qam,Act.put,List.setIfInBounds_toArray,List.set_cons_zero,List.set_cons_succ,hva,hvb,hvc]
 clear hva hvb hvc XL0 hne1 hne2 hne3;replace hb:=Qaj hb hh
 go_upto_region 2 with (fail)
 replace XA:=XA.below (Below.refl _ _).drew
 replace XB:=XB.below (Below.refl _ _).drew
 replace XC:=XC.below (Below.refl _ _).drew
 replace hb:=hb.drew
 refine wp_region_held_drew (S:=(fun w'=>w'.cell? ⟨g_a,0,none⟩=some (.bool s_p)∧w'.cell? ⟨g_a,1,none⟩=some (.slice A_p n_p c_p)∧w'.cell? ⟨g_a,2,none⟩=some (.slice B_p m_p d_p)∧w'.cell? ⟨g_a,3,none⟩=some (.bool t_p)∧w'.cell? ⟨g_a,4,none⟩=some (.slice E_p i_p e_p)∧w'.cell? ⟨g_a,5,none⟩=some (.slice F_p j_p f_p)∧w'.cell? ⟨g_b,0,none⟩=some (.bool s_q)∧w'.cell? ⟨g_b,1,none⟩=some (.slice A_q n_q c_q)∧w'.cell? ⟨g_b,2,none⟩=some (.slice B_q m_q d_q)∧w'.cell? ⟨g_b,3,none⟩=some (.bool t_q)∧w'.cell? ⟨g_b,4,none⟩=some (.slice E_q i_q e_q)∧w'.cell? ⟨g_b,5,none⟩=some (.slice F_q j_q f_q)∧w'.cell? ⟨g_c,0,none⟩=some (.bool s_r)∧w'.cell? ⟨g_c,1,none⟩=some (.slice A_r n_r c_r)∧w'.cell? ⟨g_c,2,none⟩=some (.slice B_r m_r d_r)∧w'.cell? ⟨g_c,3,none⟩=some (.bool t_r)∧w'.cell? ⟨g_c,4,none⟩=some (.slice E_r i_r e_r)∧w'.cell? ⟨g_c,5,none⟩=some (.slice F_r j_r f_r))) (by kernel_rfl) ⟨XA.c0,XA.c1,XA.c2,XA.c3,XA.c4,XA.c5,XB.c0,XB.c1,XB.c2,XB.c3,XB.c4,XB.c5,XC.c0,XC.c1,XC.c2,XC.c3,XC.c4,XC.c5⟩ (fun hHeld=>?_)
 refine wpAnyH_take (i:=0) (oi:=⟨some 17,.move (.tmp 0),22, "law.go:55",#[],none⟩) (v:=?_) rfl (by kernel_rfl) (by kernel_rfl) (by kernel_rfl) (fun _ _ _ h=>h) (Or.inl ⟨by rfl,?_⟩) hHeld ?_
 rotate_left
 · (intro w hSw;(try dsimp only at hSw);go_simp;try with_reducible rfl)
 simp only [Act.put,List.setIfInBounds_toArray,List.set_cons_zero,List.set_cons_succ]
 refine wpAnyH_ready (rs:=[1]) (by kernel_rfl) (by simp) ?_
 refine AllReadyH.cons (o:=⟨some 18,.call ⟨.value (.func 4),#[.tmp 17,.const (Value.int IntKind.i64 8)],#[22,3]⟩,4, "law.go:55",#[⟨0,.data⟩],none⟩) rfl (fun K1 hK1=>?_) AllReadyH.nil
 go_simp
 first
 | (go_at_call 4;(with_reducible refine (HFB hb).mono ?_);rintro e w_f ⟨rfl,hh⟩
    (try replace XA:=XA.below hh);(try replace XB:=XB.below hh);(try replace XC:=XC.below hh);replace hb:=Qaj hb hh)
 refine hK1.out _ _ ⟨XA.c0,XA.c1,XA.c2,XA.c3,XA.c4,XA.c5,XB.c0,XB.c1,XB.c2,XB.c3,XB.c4,XB.c5,XC.c0,XC.c1,XC.c2,XC.c3,XC.c4,XC.c5⟩ (fun hHeld=>?_)
 clear hK1 K1
 refine wpAnyH_take (i:=2) (oi:=⟨some 19,.unOp UnOp.not 4 (.tmp 18),4, "law.go:55",#[⟨1,.data⟩],none⟩) (v:=?_) rfl (by kernel_rfl) (by kernel_rfl) (by kernel_rfl) (fun _ _ _ h=>h) (Or.inl ⟨by rfl,?_⟩) hHeld ?_
 rotate_left
 · (intro w hSw;(try dsimp only at hSw);go_simp;try with_reducible rfl)
 simp only [Act.put,List.setIfInBounds_toArray,List.set_cons_zero,List.set_cons_succ]
 refine wpAnyH_take (i:=3) (oi:=⟨some 20,.move (.tmp 19),4, "law.go:55",#[⟨2,.data⟩,⟨1,.chain⟩],none⟩) (v:=?_) rfl (by kernel_rfl) (by kernel_rfl) (by kernel_rfl) (fun _ _ _ h=>h) (Or.inl ⟨by rfl,?_⟩) hHeld ?_
 rotate_left
 · (intro w hSw;(try dsimp only at hSw);go_simp;try with_reducible rfl)
 simp only [Act.put,List.setIfInBounds_toArray,List.set_cons_zero,List.set_cons_succ]
 refine wpAnyH_take (i:=4) (oi:=⟨some 21,.load 29 (.tmp 5),29, "law.go:55",#[⟨3,.guard⟩],some (3,false)⟩) (v:=undef) rfl (by kernel_rfl) (by kernel_rfl) (by kernel_rfl) (fun _ _ _ h=>h) (Or.inr ⟨by rfl,rfl⟩) hHeld ?_
 simp only [Act.put,List.setIfInBounds_toArray,List.set_cons_zero,List.set_cons_succ]
 refine wpAnyH_take (i:=5) (oi:=⟨some 22,.load 29 (.tmp 6),29, "law.go:55",#[⟨3,.guard⟩],some (3,false)⟩) (v:=undef) rfl (by kernel_rfl) (by kernel_rfl) (by kernel_rfl) (fun _ _ _ h=>h) (Or.inr ⟨by rfl,rfl⟩) hHeld ?_
 simp only [Act.put,List.setIfInBounds_toArray,List.set_cons_zero,List.set_cons_succ]
 refine wpAnyH_take (i:=6) (oi:=⟨some 23,.load 29 (.tmp 7),29, "law.go:55",#[⟨3,.guard⟩],some (3,false)⟩) (v:=undef) rfl (by kernel_rfl) (by kernel_rfl) (by kernel_rfl) (fun _ _ _ h=>h) (Or.inr ⟨by rfl,rfl⟩) hHeld ?_
 simp only [Act.put,List.setIfInBounds_toArray,List.set_cons_zero,List.set_cons_succ]
 refine wpAnyH_take (i:=7) (oi:=⟨some 24,.buildSlice 22 3 #[(0,.tmp 21),(1,.tmp 22),(2,.tmp 23)],22, "law.go:55",#[⟨4,.data⟩,⟨5,.data⟩,⟨6,.data⟩,⟨3,.guard⟩],some (3,false)⟩) (v:=undef) rfl (by kernel_rfl) (by kernel_rfl) (by kernel_rfl) (fun _ _ _ h=>h) (Or.inr ⟨by rfl,rfl⟩) hHeld ?_
 simp only [Act.put,List.setIfInBounds_toArray,List.set_cons_zero,List.set_cons_succ]
 refine wpAnyH_take (i:=8) (oi:=⟨some 25,.call ⟨.value (.func 5),#[.tmp 24],#[22]⟩,4, "law.go:55",#[⟨7,.data⟩,⟨3,.chain⟩,⟨3,.guard⟩],some (3,false)⟩) (v:=undef) rfl (by kernel_rfl) (by kernel_rfl) (by kernel_rfl) (fun _ _ _ h=>h) (Or.inr ⟨by rfl,rfl⟩) hHeld ?_
 simp only [Act.put,List.setIfInBounds_toArray,List.set_cons_zero,List.set_cons_succ]
 refine wpAnyH_take (i:=9) (oi:=⟨some 26,.unOp UnOp.not 4 (.tmp 25),4, "law.go:55",#[⟨8,.data⟩,⟨3,.guard⟩],some (3,false)⟩) (v:=undef) rfl (by kernel_rfl) (by kernel_rfl) (by kernel_rfl) (fun _ _ _ h=>h) (Or.inr ⟨by rfl,rfl⟩) hHeld ?_
 simp only [Act.put,List.setIfInBounds_toArray,List.set_cons_zero,List.set_cons_succ]
 refine wpAnyH_take (i:=10) (oi:=⟨some 27,.pick (.tmp 20) (.const (Value.bool true)) (.tmp 26),4, "law.go:55",#[⟨3,.data⟩,⟨9,.data⟩],none⟩) (v:=?_) rfl (by kernel_rfl) (by kernel_rfl) (by kernel_rfl) (fun _ _ _ h=>h) (Or.inl ⟨by rfl,?_⟩) hHeld ?_
 rotate_left
 · (intro w hSw;(try dsimp only at hSw);go_simp;try with_reducible rfl)
 simp only [Act.put,List.setIfInBounds_toArray,List.set_cons_zero,List.set_cons_succ]
 refine wpAnyH_take (i:=11) (oi:=⟨some 28,.move (.tmp 27),4, "law.go:55",#[⟨10,.data⟩,⟨8,.chain⟩],none⟩) (v:=?_) rfl (by kernel_rfl) (by kernel_rfl) (by kernel_rfl) (fun _ _ _ h=>h) (Or.inl ⟨by rfl,?_⟩) hHeld ?_
 rotate_left
 · (intro w hSw;(try dsimp only at hSw);go_simp;try with_reducible rfl)
 simp only [Act.put,List.setIfInBounds_toArray,List.set_cons_zero,List.set_cons_succ]
 refine wpAnyH_take (i:=12) (oi:=⟨some 29,.move (.tmp 0),22, "law.go:55",#[⟨11,.guard⟩],some (11,false)⟩) (v:=undef) rfl (by kernel_rfl) (by kernel_rfl) (by kernel_rfl) (fun _ _ _ h=>h) (Or.inr ⟨by rfl,rfl⟩) hHeld ?_
 simp only [Act.put,List.setIfInBounds_toArray,List.set_cons_zero,List.set_cons_succ]
 refine wpAnyH_take (i:=13) (oi:=⟨some 30,.call ⟨.value (.func 7),#[.tmp 29],#[22]⟩,34, "law.go:55",#[⟨12,.data⟩,⟨11,.chain⟩,⟨11,.guard⟩],some (11,false)⟩) (v:=undef) rfl (by kernel_rfl) (by kernel_rfl) (by kernel_rfl) (fun _ _ _ h=>h) (Or.inr ⟨by rfl,rfl⟩) hHeld ?_
 simp only [Act.put,List.setIfInBounds_toArray,List.set_cons_zero,List.set_cons_succ]
 refine wpAnyH_take (i:=14) (oi:=⟨some 31,.call ⟨.value (.func 6),#[.tmp 30],#[34]⟩,4, "law.go:55",#[⟨13,.data⟩,⟨13,.chain⟩,⟨11,.guard⟩],some (11,false)⟩) (v:=undef) rfl (by kernel_rfl) (by kernel_rfl) (by kernel_rfl) (fun _ _ _ h=>h) (Or.inr ⟨by rfl,rfl⟩) hHeld ?_
 simp only [Act.put,List.setIfInBounds_toArray,List.set_cons_zero,List.set_cons_succ]
 refine wpAnyH_take (i:=15) (oi:=⟨some 32,.unOp UnOp.not 4 (.tmp 31),4, "law.go:55",#[⟨14,.data⟩,⟨11,.guard⟩],some (11,false)⟩) (v:=undef) rfl (by kernel_rfl) (by kernel_rfl) (by kernel_rfl) (fun _ _ _ h=>h) (Or.inr ⟨by rfl,rfl⟩) hHeld ?_
 simp only [Act.put,List.setIfInBounds_toArray,List.set_cons_zero,List.set_cons_succ]
 refine wpAnyH_take (i:=16) (oi:=⟨some 33,.pick (.tmp 28) (.const (Value.bool true)) (.tmp 32),4, "law.go:55",#[⟨11,.data⟩,⟨15,.data⟩],none⟩) (v:=?_) rfl (by kernel_rfl) (by kernel_rfl) (by kernel_rfl) (fun _ _ _ h=>h) (Or.inl ⟨by rfl,?_⟩) hHeld ?_
 rotate_left
 · (intro w hSw;(try dsimp only at hSw);go_simp;try with_reducible rfl)
 simp only [Act.put,List.setIfInBounds_toArray,List.set_cons_zero,List.set_cons_succ]
 refine wpAnyH_take (i:=17) (oi:=⟨some 34,.move (.tmp 33),4, "law.go:55",#[⟨16,.data⟩,⟨14,.chain⟩],none⟩) (v:=?_) rfl (by kernel_rfl) (by kernel_rfl) (by kernel_rfl) (fun _ _ _ h=>h) (Or.inl ⟨by rfl,?_⟩) hHeld ?_
 rotate_left
 · (intro w hSw;(try dsimp only at hSw);go_simp;try with_reducible rfl)
 simp only [Act.put,List.setIfInBounds_toArray,List.set_cons_zero,List.set_cons_succ]
 refine wpAnyH_take (i:=18) (oi:=⟨some 35,.load 29 (.tmp 5),29, "law.go:55",#[⟨17,.guard⟩],some (17,false)⟩) (v:=undef) rfl (by kernel_rfl) (by kernel_rfl) (by kernel_rfl) (fun _ _ _ h=>h) (Or.inr ⟨by rfl,rfl⟩) hHeld ?_
 simp only [Act.put,List.setIfInBounds_toArray,List.set_cons_zero,List.set_cons_succ]
 refine wpAnyH_take (i:=19) (oi:=⟨some 36,.call ⟨.value (.func 9),#[.tmp 35],#[29]⟩,44, "law.go:55",#[⟨18,.data⟩,⟨17,.chain⟩,⟨17,.guard⟩],some (17,false)⟩) (v:=undef) rfl (by kernel_rfl) (by kernel_rfl) (by kernel_rfl) (fun _ _ _ h=>h) (Or.inr ⟨by rfl,rfl⟩) hHeld ?_
 simp only [Act.put,List.setIfInBounds_toArray,List.set_cons_zero,List.set_cons_succ]
 refine wpAnyH_take (i:=20) (oi:=⟨some 37,.load 29 (.tmp 6),29, "law.go:55",#[⟨17,.guard⟩],some (17,false)⟩) (v:=undef) rfl (by kernel_rfl) (by kernel_rfl) (by kernel_rfl) (fun _ _ _ h=>h) (Or.inr ⟨by rfl,rfl⟩) hHeld ?_
 simp only [Act.put,List.setIfInBounds_toArray,List.set_cons_zero,List.set_cons_succ]
 refine wpAnyH_take (i:=21) (oi:=⟨some 38,.call ⟨.value (.func 9),#[.tmp 37],#[29]⟩,44, "law.go:55",#[⟨20,.data⟩,⟨19,.chain⟩,⟨17,.guard⟩],some (17,false)⟩) (v:=undef) rfl (by kernel_rfl) (by kernel_rfl) (by kernel_rfl) (fun _ _ _ h=>h) (Or.inr ⟨by rfl,rfl⟩) hHeld ?_
 simp only [Act.put,List.setIfInBounds_toArray,List.set_cons_zero,List.set_cons_succ]
 refine wpAnyH_take (i:=22) (oi:=⟨some 39,.call ⟨.value (.func 8),#[.tmp 36,.tmp 38],#[44,44]⟩,4, "law.go:55",#[⟨19,.data⟩,⟨21,.data⟩,⟨21,.chain⟩,⟨17,.guard⟩],some (17,false)⟩) (v:=undef) rfl (by kernel_rfl) (by kernel_rfl) (by kernel_rfl) (fun _ _ _ h=>h) (Or.inr ⟨by rfl,rfl⟩) hHeld ?_
 simp only [Act.put,List.setIfInBounds_toArray,List.set_cons_zero,List.set_cons_succ]
 refine wpAnyH_take (i:=23) (oi:=⟨some 40,.pick (.tmp 34) (.const (Value.bool true)) (.tmp 39),4, "law.go:55",#[⟨17,.data⟩,⟨22,.data⟩],none⟩) (v:=?_) rfl (by kernel_rfl) (by kernel_rfl) (by kernel_rfl) (fun _ _ _ h=>h) (Or.inl ⟨by rfl,?_⟩) hHeld ?_
 rotate_left
 · (intro w hSw;(try dsimp only at hSw);go_simp;try with_reducible rfl)
 simp only [Act.put,List.setIfInBounds_toArray,List.set_cons_zero,List.set_cons_succ]
 refine wpAnyH_done (by kernel_rfl) ?_ _
 clear hHeld
 go_wp2_with (first
  | (go_at_call 10;(with_reducible refine (Qcf _).mono ?_);rintro e w_z ⟨rfl,hh⟩
     replace hb:=Qaj hb hh))
 go_ret;exact ⟨rfl,hb⟩
theorem QgF {w W:World} {x0 x1 x2 x3 x4 x5 x6 x7 x8 x9 x10 x11 x12 x13 x14 x15 x16 x17:Value} (h:(w.alloc (Obj.cells #[x0,x1,x2,x3,x4,x5,x6,x7,x8,x9,x10,x11,x12,x13,x14,x15,x16,x17] 29))=W):Below w.heap.size w W∧BL3 W (w.heap.size) x0 x1 x2 x3 x4 x5 x6 x7 x8 x9 x10 x11 x12 x13 x14 x15 x16 x17∧W.heap.size=w.heap.size+1:=by subst h;exact ⟨by exact ((Below.refl _ _).alloc (Nat.le_refl _) _),by exact BL3.new' _ _ _ _ _ _ _ _ _ _ _ _ _ _ _ _ _ _ _ _ rfl,by simp⟩
theorem Qrg {A:Option Addr} {n c:Nat} {L:List PV} (hL:SV w A (pvs L)) (hn:L.length=n) (hnc:n≤c) (h:n≤8) (h2:∀ q ∈ L,q.small 4) (h3:¬ (((n_p≤6∧m_p≤6)∧i_p≤6∧j_p≤6)∧((n_q≤6∧m_q≤6)∧i_q≤6∧j_q≤6)∧((n_r≤6∧m_r≤6)∧i_r≤6∧j_r≤6))) :
 Calls Tryz.prog 3 #[.slice A n c,.agg #[.bool s_p,.slice A_p n_p c_p,.slice B_p m_p d_p,.bool t_p,.slice E_p i_p e_p,.slice F_p j_p f_p,.bool s_q,.slice A_q n_q c_q,.slice B_q m_q d_q,.bool t_q,.slice E_q i_q e_q,.slice F_q j_q f_q,.bool s_r,.slice A_r n_r c_r,.slice B_r m_r d_r,.bool t_r,.slice E_r i_r e_r,.slice F_r j_r f_r]] w fun e w'=>e=.returned (.bool true)∧Below w.heap.size w w':=by
 have H8:Hid ((8:Int)=((8:Nat):Int)):=rfl
 have HL:Hid (decide (((n_p≤6∧m_p≤6)∧i_p≤6∧j_p≤6)∧((n_q≤6∧m_q≤6)∧i_q≤6∧j_q≤6)∧((n_r≤6∧m_r≤6)∧i_r≤6∧j_r≤6))=false):=decide_eq_false h3
 have HN:=Lib.hid hn;have HNc:=Lib.hid hnc;have S9:=Lib.hid hL;have H1:=Lib.hid h;have H2:=Lib.hid h2;clear h3 hL hn hnc h h2
 go_enter Tryz.func3,Tryz.ntmps3
 go_upto_region 1 with (fail)
 generalize hW:World.alloc _ _=W
 obtain ⟨hb,XL0,hzW⟩:=QeI hW;clear hW
 refine QdB (by simp) rfl XL0 ?_
 intro V w_1 g_a g_b g_c XA hg_a hva XB hg_b hvb XC hg_c hvc hne1 hne2 hne3 hh
 simp only [Qam,Act.put,List.setIfInBounds_toArray,List.set_cons_zero,List.set_cons_succ,hva,hvb,hvc]
 clear hva hvb hvc XL0 hne1 hne2 hne3;replace hb:=Qaj hb hh
 go_upto_region 2 with (fail)
 replace XA:=XA.below (Below.refl _ _).drew
 replace XB:=XB.below (Below.refl _ _).drew
 replace XC:=XC.below (Below.refl _ _).drew
 replace hb:=hb.drew
 refine wp_region_held_drew (S:=(fun w'=>w'.cell? ⟨g_a,0,none⟩=some (.bool s_p)∧w'.cell? ⟨g_a,1,none⟩=some (.slice A_p n_p c_p)∧w'.cell? ⟨g_a,2,none⟩=some (.slice B_p m_p d_p)∧w'.cell? ⟨g_a,3,none⟩=some (.bool t_p)∧w'.cell? ⟨g_a,4,none⟩=some (.slice E_p i_p e_p)∧w'.cell? ⟨g_a,5,none⟩=some (.slice F_p j_p f_p)∧w'.cell? ⟨g_b,0,none⟩=some (.bool s_q)∧w'.cell? ⟨g_b,1,none⟩=some (.slice A_q n_q c_q)∧w'.cell? ⟨g_b,2,none⟩=some (.slice B_q m_q d_q)∧w'.cell? ⟨g_b,3,none⟩=some (.bool t_q)∧w'.cell? ⟨g_b,4,none⟩=some (.slice E_q i_q e_q)∧w'.cell? ⟨g_b,5,none⟩=some (.slice F_q j_q f_q)∧w'.cell? ⟨g_c,0,none⟩=some (.bool s_r)∧w'.cell? ⟨g_c,1,none⟩=some (.slice A_r n_r c_r)∧w'.cell? ⟨g_c,2,none⟩=some (.slice B_r m_r d_r)∧w'.cell? ⟨g_c,3,none⟩=some (.bool t_r)∧w'.cell? ⟨g_c,4,none⟩=some (.slice E_r i_r e_r)∧w'.cell? ⟨g_c,5,none⟩=some (.slice F_r j_r f_r))) (by kernel_rfl) ⟨XA.c0,XA.c1,XA.c2,XA.c3,XA.c4,XA.c5,XB.c0,XB.c1,XB.c2,XB.c3,XB.c4,XB.c5,XC.c0,XC.c1,XC.c2,XC.c3,XC.c4,XC.c5⟩ (fun hHeld=>?_)
 refine wpAnyH_take (i:=0) (oi:=⟨some 17,.move (.tmp 0),22, "law.go:55",#[],none⟩) (v:=?_) rfl (by kernel_rfl) (by kernel_rfl) (by kernel_rfl) (fun _ _ _ h=>h) (Or.inl ⟨by rfl,?_⟩) hHeld ?_
 rotate_left
 · (intro w hSw;(try dsimp only at hSw);go_simp;try with_reducible rfl)
 simp only [Act.put,List.setIfInBounds_toArray,List.set_cons_zero,List.set_cons_succ]
 refine wpAnyH_ready (rs:=[1]) (by kernel_rfl) (by simp) ?_
 refine AllReadyH.cons (o:=⟨some 18,.call ⟨.value (.func 4),#[.tmp 17,.const (Value.int IntKind.i64 8)],#[22,3]⟩,4, "law.go:55",#[⟨0,.data⟩],none⟩) rfl (fun K1 hK1=>?_) AllReadyH.nil
 go_simp
 first
 | (go_at_call 4;(with_reducible refine (QiM H8.out (S9.out.below hb) HN.out (by decide) HNc.out H1.out H2.out).mono ?_);rintro e w_f ⟨rfl,hh⟩
    (try replace XA:=XA.below hh);(try replace XB:=XB.below hh);(try replace XC:=XC.below hh);replace hb:=Qaj hb hh)
 refine hK1.out _ _ ⟨XA.c0,XA.c1,XA.c2,XA.c3,XA.c4,XA.c5,XB.c0,XB.c1,XB.c2,XB.c3,XB.c4,XB.c5,XC.c0,XC.c1,XC.c2,XC.c3,XC.c4,XC.c5⟩ (fun hHeld=>?_)
 clear hK1 K1
 refine wpAnyH_take (i:=2) (oi:=⟨some 19,.unOp UnOp.not 4 (.tmp 18),4, "law.go:55",#[⟨1,.data⟩],none⟩) (v:=?_) rfl (by kernel_rfl) (by kernel_rfl) (by kernel_rfl) (fun _ _ _ h=>h) (Or.inl ⟨by rfl,?_⟩) hHeld ?_
 rotate_left
 · (intro w hSw;(try dsimp only at hSw);go_simp;try with_reducible rfl)
 simp only [Act.put,List.setIfInBounds_toArray,List.set_cons_zero,List.set_cons_succ]
 refine wpAnyH_take (i:=3) (oi:=⟨some 20,.move (.tmp 19),4, "law.go:55",#[⟨2,.data⟩,⟨1,.chain⟩],none⟩) (v:=?_) rfl (by kernel_rfl) (by kernel_rfl) (by kernel_rfl) (fun _ _ _ h=>h) (Or.inl ⟨by rfl,?_⟩) hHeld ?_
 rotate_left
 · (intro w hSw;(try dsimp only at hSw);go_simp;try with_reducible rfl)
 simp only [Act.put,List.setIfInBounds_toArray,List.set_cons_zero,List.set_cons_succ]
 refine wpAnyH_take (i:=4) (oi:=⟨some 21,.load 29 (.tmp 5),29, "law.go:55",#[⟨3,.guard⟩],some (3,false)⟩) (v:=?_) rfl (by kernel_rfl) (by kernel_rfl) (by kernel_rfl) (fun _ _ _ h=>h) (Or.inl ⟨by rfl,?_⟩) hHeld ?_
 rotate_left
 · (intro w hSw;(try dsimp only at hSw);go_simp;try with_reducible rfl)
 simp only [Act.put,List.setIfInBounds_toArray,List.set_cons_zero,List.set_cons_succ]
 refine wpAnyH_take (i:=5) (oi:=⟨some 22,.load 29 (.tmp 6),29, "law.go:55",#[⟨3,.guard⟩],some (3,false)⟩) (v:=?_) rfl (by kernel_rfl) (by kernel_rfl) (by kernel_rfl) (fun _ _ _ h=>h) (Or.inl ⟨by rfl,?_⟩) hHeld ?_
 rotate_left
 · (intro w hSw;(try dsimp only at hSw);go_simp;try with_reducible rfl)
 simp only [Act.put,List.setIfInBounds_toArray,List.set_cons_zero,List.set_cons_succ]
 refine wpAnyH_take (i:=6) (oi:=⟨some 23,.load 29 (.tmp 7),29, "law.go:55",#[⟨3,.guard⟩],some (3,false)⟩) (v:=?_) rfl (by kernel_rfl) (by kernel_rfl) (by kernel_rfl) (fun _ _ _ h=>h) (Or.inl ⟨by rfl,?_⟩) hHeld ?_
 rotate_left
 · (intro w hSw;(try dsimp only at hSw);go_simp;try with_reducible rfl)
 simp only [Act.put,List.setIfInBounds_toArray,List.set_cons_zero,List.set_cons_succ]
 refine wpAnyH_ready (rs:=[7]) (by kernel_rfl) (by simp) ?_
 refine AllReadyH.cons (o:=⟨some 24,.buildSlice 22 3 #[(0,.tmp 21),(1,.tmp 22),(2,.tmp 23)],22, "law.go:55",#[⟨4,.data⟩,⟨5,.data⟩,⟨6,.data⟩,⟨3,.guard⟩],some (3,false)⟩) rfl (fun K1 hK1=>?_) AllReadyH.nil
 go_simp
 generalize hW:World.alloc _ _=W2
 obtain ⟨hh,XL,hzW2⟩:=QgF hW;clear hW;(try replace XA:=XA.below hh);(try replace XB:=XB.below hh);(try replace XC:=XC.below hh);replace hb:=Qaj hb hh
 refine hK1.out _ _ ⟨XA.c0,XA.c1,XA.c2,XA.c3,XA.c4,XA.c5,XB.c0,XB.c1,XB.c2,XB.c3,XB.c4,XB.c5,XC.c0,XC.c1,XC.c2,XC.c3,XC.c4,XC.c5⟩ (fun hHeld=>?_)
 clear hK1 K1
 refine wpAnyH_ready (rs:=[8]) (by kernel_rfl) (by simp) ?_
 refine AllReadyH.cons (o:=⟨some 25,.call ⟨.value (.func 5),#[.tmp 24],#[22]⟩,4, "law.go:55",#[⟨7,.data⟩,⟨3,.chain⟩,⟨3,.guard⟩],some (3,false)⟩) rfl (fun K1 hK1=>?_) AllReadyH.nil
 go_simp
 first
 | (go_at_call 5;(with_reducible refine (QsP XL false HL.out).mono ?_);rintro e w_z ⟨rfl,hh⟩
    clear XL;(try replace XA:=XA.below hh);(try replace XB:=XB.below hh);(try replace XC:=XC.below hh);replace hb:=Qaj hb hh)
 refine hK1.out _ _ ⟨XA.c0,XA.c1,XA.c2,XA.c3,XA.c4,XA.c5,XB.c0,XB.c1,XB.c2,XB.c3,XB.c4,XB.c5,XC.c0,XC.c1,XC.c2,XC.c3,XC.c4,XC.c5⟩ (fun hHeld=>?_)
 clear hK1 K1
 refine wpAnyH_take (i:=9) (oi:=⟨some 26,.unOp UnOp.not 4 (.tmp 25),4, "law.go:55",#[⟨8,.data⟩,⟨3,.guard⟩],some (3,false)⟩) (v:=?_) rfl (by kernel_rfl) (by kernel_rfl) (by kernel_rfl) (fun _ _ _ h=>h) (Or.inl ⟨by rfl,?_⟩) hHeld ?_
 rotate_left
 · (intro w hSw;(try dsimp only at hSw);go_simp;try with_reducible rfl)
 simp only [Act.put,List.setIfInBounds_toArray,List.set_cons_zero,List.set_cons_succ]
 refine wpAnyH_take (i:=10) (oi:=⟨some 27,.pick (.tmp 20) (.const (Value.bool true)) (.tmp 26),4, "law.go:55",#[⟨3,.data⟩,⟨9,.data⟩],none⟩) (v:=?_) rfl (by kernel_rfl) (by kernel_rfl) (by kernel_rfl) (fun _ _ _ h=>h) (Or.inl ⟨by rfl,?_⟩) hHeld ?_
 rotate_left
 · (intro w hSw;(try dsimp only at hSw);go_simp;try with_reducible rfl)
 simp only [Act.put,List.setIfInBounds_toArray,List.set_cons_zero,List.set_cons_succ]
 refine wpAnyH_take (i:=11) (oi:=⟨some 28,.move (.tmp 27),4, "law.go:55",#[⟨10,.data⟩,⟨8,.chain⟩],none⟩) (v:=?_) rfl (by kernel_rfl) (by kernel_rfl) (by kernel_rfl) (fun _ _ _ h=>h) (Or.inl ⟨by rfl,?_⟩) hHeld ?_
 rotate_left
 · (intro w hSw;(try dsimp only at hSw);go_simp;try with_reducible rfl)
 simp only [Act.put,List.setIfInBounds_toArray,List.set_cons_zero,List.set_cons_succ]
 refine wpAnyH_take (i:=12) (oi:=⟨some 29,.move (.tmp 0),22, "law.go:55",#[⟨11,.guard⟩],some (11,false)⟩) (v:=undef) rfl (by kernel_rfl) (by kernel_rfl) (by kernel_rfl) (fun _ _ _ h=>h) (Or.inr ⟨by rfl,rfl⟩) hHeld ?_
 simp only [Act.put,List.setIfInBounds_toArray,List.set_cons_zero,List.set_cons_succ]
 refine wpAnyH_take (i:=13) (oi:=⟨some 30,.call ⟨.value (.func 7),#[.tmp 29],#[22]⟩,34, "law.go:55",#[⟨12,.data⟩,⟨11,.chain⟩,⟨11,.guard⟩],some (11,false)⟩) (v:=undef) rfl (by kernel_rfl) (by kernel_rfl) (by kernel_rfl) (fun _ _ _ h=>h) (Or.inr ⟨by rfl,rfl⟩) hHeld ?_
 simp only [Act.put,List.setIfInBounds_toArray,List.set_cons_zero,List.set_cons_succ]
 refine wpAnyH_take (i:=14) (oi:=⟨some 31,.call ⟨.value (.func 6),#[.tmp 30],#[34]⟩,4, "law.go:55",#[⟨13,.data⟩,⟨13,.chain⟩,⟨11,.guard⟩],some (11,false)⟩) (v:=undef) rfl (by kernel_rfl) (by kernel_rfl) (by kernel_rfl) (fun _ _ _ h=>h) (Or.inr ⟨by rfl,rfl⟩) hHeld ?_
 simp only [Act.put,List.setIfInBounds_toArray,List.set_cons_zero,List.set_cons_succ]
 refine wpAnyH_take (i:=15) (oi:=⟨some 32,.unOp UnOp.not 4 (.tmp 31),4, "law.go:55",#[⟨14,.data⟩,⟨11,.guard⟩],some (11,false)⟩) (v:=undef) rfl (by kernel_rfl) (by kernel_rfl) (by kernel_rfl) (fun _ _ _ h=>h) (Or.inr ⟨by rfl,rfl⟩) hHeld ?_
 simp only [Act.put,List.setIfInBounds_toArray,List.set_cons_zero,List.set_cons_succ]
 refine wpAnyH_take (i:=16) (oi:=⟨some 33,.pick (.tmp 28) (.const (Value.bool true)) (.tmp 32),4, "law.go:55",#[⟨11,.data⟩,⟨15,.data⟩],none⟩) (v:=?_) rfl (by kernel_rfl) (by kernel_rfl) (by kernel_rfl) (fun _ _ _ h=>h) (Or.inl ⟨by rfl,?_⟩) hHeld ?_
 rotate_left
 · (intro w hSw;(try dsimp only at hSw);go_simp;try with_reducible rfl)
 simp only [Act.put,List.setIfInBounds_toArray,List.set_cons_zero,List.set_cons_succ]
 refine wpAnyH_take (i:=17) (oi:=⟨some 34,.move (.tmp 33),4, "law.go:55",#[⟨16,.data⟩,⟨14,.chain⟩],none⟩) (v:=?_) rfl (by kernel_rfl) (by kernel_rfl) (by kernel_rfl) (fun _ _ _ h=>h) (Or.inl ⟨by rfl,?_⟩) hHeld ?_
 rotate_left
 · (intro w hSw;(try dsimp only at hSw);go_simp;try with_reducible rfl)
 simp only [Act.put,List.setIfInBounds_toArray,List.set_cons_zero,List.set_cons_succ]
 refine wpAnyH_take (i:=18) (oi:=⟨some 35,.load 29 (.tmp 5),29, "law.go:55",#[⟨17,.guard⟩],some (17,false)⟩) (v:=undef) rfl (by kernel_rfl) (by kernel_rfl) (by kernel_rfl) (fun _ _ _ h=>h) (Or.inr ⟨by rfl,rfl⟩) hHeld ?_
 simp only [Act.put,List.setIfInBounds_toArray,List.set_cons_zero,List.set_cons_succ]
 refine wpAnyH_take (i:=19) (oi:=⟨some 36,.call ⟨.value (.func 9),#[.tmp 35],#[29]⟩,44, "law.go:55",#[⟨18,.data⟩,⟨17,.chain⟩,⟨17,.guard⟩],some (17,false)⟩) (v:=undef) rfl (by kernel_rfl) (by kernel_rfl) (by kernel_rfl) (fun _ _ _ h=>h) (Or.inr ⟨by rfl,rfl⟩) hHeld ?_
 simp only [Act.put,List.setIfInBounds_toArray,List.set_cons_zero,List.set_cons_succ]
 refine wpAnyH_take (i:=20) (oi:=⟨some 37,.load 29 (.tmp 6),29, "law.go:55",#[⟨17,.guard⟩],some (17,false)⟩) (v:=undef) rfl (by kernel_rfl) (by kernel_rfl) (by kernel_rfl) (fun _ _ _ h=>h) (Or.inr ⟨by rfl,rfl⟩) hHeld ?_
 simp only [Act.put,List.setIfInBounds_toArray,List.set_cons_zero,List.set_cons_succ]
 refine wpAnyH_take (i:=21) (oi:=⟨some 38,.call ⟨.value (.func 9),#[.tmp 37],#[29]⟩,44, "law.go:55",#[⟨20,.data⟩,⟨19,.chain⟩,⟨17,.guard⟩],some (17,false)⟩) (v:=undef) rfl (by kernel_rfl) (by kernel_rfl) (by kernel_rfl) (fun _ _ _ h=>h) (Or.inr ⟨by rfl,rfl⟩) hHeld ?_
 simp only [Act.put,List.setIfInBounds_toArray,List.set_cons_zero,List.set_cons_succ]
 refine wpAnyH_take (i:=22) (oi:=⟨some 39,.call ⟨.value (.func 8),#[.tmp 36,.tmp 38],#[44,44]⟩,4, "law.go:55",#[⟨19,.data⟩,⟨21,.data⟩,⟨21,.chain⟩,⟨17,.guard⟩],some (17,false)⟩) (v:=undef) rfl (by kernel_rfl) (by kernel_rfl) (by kernel_rfl) (fun _ _ _ h=>h) (Or.inr ⟨by rfl,rfl⟩) hHeld ?_
 simp only [Act.put,List.setIfInBounds_toArray,List.set_cons_zero,List.set_cons_succ]
 refine wpAnyH_take (i:=23) (oi:=⟨some 40,.pick (.tmp 34) (.const (Value.bool true)) (.tmp 39),4, "law.go:55",#[⟨17,.data⟩,⟨22,.data⟩],none⟩) (v:=?_) rfl (by kernel_rfl) (by kernel_rfl) (by kernel_rfl) (fun _ _ _ h=>h) (Or.inl ⟨by rfl,?_⟩) hHeld ?_
 rotate_left
 · (intro w hSw;(try dsimp only at hSw);go_simp;try with_reducible rfl)
 simp only [Act.put,List.setIfInBounds_toArray,List.set_cons_zero,List.set_cons_succ]
 refine wpAnyH_done (by kernel_rfl) ?_ _
 clear hHeld
 go_wp2_with (first
  | (go_at_call 10;(with_reducible refine (Qcf _).mono ?_);rintro e w_z ⟨rfl,hh⟩
     replace hb:=Qaj hb hh))
 go_ret;exact ⟨rfl,hb⟩
theorem Qrk {A:Option Addr} {n c:Nat} {L:List PV} {l:List (Rat × Rat)} {ax ay bx by_ px py:Rat} (hL:SV w A (pvs L)) (hn:L.length=n) (hnc:n≤c) (hE:Each PV.PR w L l 4) (p:PR w s_p A_p n_p c_p B_p m_p d_p t_p E_p i_p e_p F_p j_p f_p ax ay 6) (q:PR w s_q A_q n_q c_q B_q m_q d_q t_q E_q i_q e_q F_q j_q f_q bx by_ 6) (r:PR w s_r A_r n_r c_r B_r m_r d_r t_r E_r i_r e_r F_r j_r f_r px py 6) (h:n≤8) (h2:∀ q ∈ L,q.small 4) (h3:(((n_p≤6∧m_p≤6)∧i_p≤6∧j_p≤6)∧((n_q≤6∧m_q≤6)∧i_q≤6∧j_q≤6)∧((n_r≤6∧m_r≤6)∧i_r≤6∧j_r≤6))) (h4:¬ QdC l) :
 Calls Tryz.prog 3 #[.slice A n c,.agg #[.bool s_p,.slice A_p n_p c_p,.slice B_p m_p d_p,.bool t_p,.slice E_p i_p e_p,.slice F_p j_p f_p,.bool s_q,.slice A_q n_q c_q,.slice B_q m_q d_q,.bool t_q,.slice E_q i_q e_q,.slice F_q j_q f_q,.bool s_r,.slice A_r n_r c_r,.slice B_r m_r d_r,.bool t_r,.slice E_r i_r e_r,.slice F_r j_r f_r]] w fun e w'=>e=.returned (.bool true)∧Below w.heap.size w w':=by
 have H8:Hid ((8:Int)=((8:Nat):Int)):=rfl
 have HL:Hid (decide (((n_p≤6∧m_p≤6)∧i_p≤6∧j_p≤6)∧((n_q≤6∧m_q≤6)∧i_q≤6∧j_q≤6)∧((n_r≤6∧m_r≤6)∧i_r≤6∧j_r≤6))=true):=decide_eq_true h3
 have HN:=Lib.hid hn;have HNc:=Lib.hid hnc;have S9:=Lib.hid hL;have H1:=Lib.hid h;have H2:=Lib.hid h2
 have H1k:Hid (n≤1000):=Nat.le_trans h (by decide)
 have HNl:Hid (l.length=n):=hE.1.symm.trans hn
 have P9:=Lib.hid hE;have P6:=Lib.hid p;have Q6:=Lib.hid q;have R6:=Lib.hid r;clear h3 hL hn hnc h h2 hE p q r
 have HCV:=Lib.hid (Qrr h4)
 clear h4
 go_enter Tryz.func3,Tryz.ntmps3
 go_upto_region 1 with (fail)
 generalize hW:World.alloc _ _=W
 obtain ⟨hb,XL0,hzW⟩:=QeI hW;clear hW
 refine QdB (by simp) rfl XL0 ?_
 intro V w_1 g_a g_b g_c XA hg_a hva XB hg_b hvb XC hg_c hvc hne1 hne2 hne3 hh
 simp only [Qam,Act.put,List.setIfInBounds_toArray,List.set_cons_zero,List.set_cons_succ,hva,hvb,hvc]
 clear hva hvb hvc XL0 hne1 hne2 hne3;replace hb:=Qaj hb hh
 go_upto_region 2 with (fail)
 replace XA:=XA.below (Below.refl _ _).drew
 replace XB:=XB.below (Below.refl _ _).drew
 replace XC:=XC.below (Below.refl _ _).drew
 replace hb:=hb.drew
 refine wp_region_held_drew (S:=(fun w'=>w'.cell? ⟨g_a,0,none⟩=some (.bool s_p)∧w'.cell? ⟨g_a,1,none⟩=some (.slice A_p n_p c_p)∧w'.cell? ⟨g_a,2,none⟩=some (.slice B_p m_p d_p)∧w'.cell? ⟨g_a,3,none⟩=some (.bool t_p)∧w'.cell? ⟨g_a,4,none⟩=some (.slice E_p i_p e_p)∧w'.cell? ⟨g_a,5,none⟩=some (.slice F_p j_p f_p)∧w'.cell? ⟨g_b,0,none⟩=some (.bool s_q)∧w'.cell? ⟨g_b,1,none⟩=some (.slice A_q n_q c_q)∧w'.cell? ⟨g_b,2,none⟩=some (.slice B_q m_q d_q)∧w'.cell? ⟨g_b,3,none⟩=some (.bool t_q)∧w'.cell? ⟨g_b,4,none⟩=some (.slice E_q i_q e_q)∧w'.cell? ⟨g_b,5,none⟩=some (.slice F_q j_q f_q)∧w'.cell? ⟨g_c,0,none⟩=some (.bool s_r)∧w'.cell? ⟨g_c,1,none⟩=some (.slice A_r n_r c_r)∧w'.cell? ⟨g_c,2,none⟩=some (.slice B_r m_r d_r)∧w'.cell? ⟨g_c,3,none⟩=some (.bool t_r)∧w'.cell? ⟨g_c,4,none⟩=some (.slice E_r i_r e_r)∧w'.cell? ⟨g_c,5,none⟩=some (.slice F_r j_r f_r))) (by kernel_rfl) ⟨XA.c0,XA.c1,XA.c2,XA.c3,XA.c4,XA.c5,XB.c0,XB.c1,XB.c2,XB.c3,XB.c4,XB.c5,XC.c0,XC.c1,XC.c2,XC.c3,XC.c4,XC.c5⟩ (fun hHeld=>?_)
 refine wpAnyH_take (i:=0) (oi:=⟨some 17,.move (.tmp 0),22, "law.go:55",#[],none⟩) (v:=?_) rfl (by kernel_rfl) (by kernel_rfl) (by kernel_rfl) (fun _ _ _ h=>h) (Or.inl ⟨by rfl,?_⟩) hHeld ?_
 rotate_left
 · (intro w hSw;(try dsimp only at hSw);go_simp;try with_reducible rfl)
 simp only [Act.put,List.setIfInBounds_toArray,List.set_cons_zero,List.set_cons_succ]
 refine wpAnyH_ready (rs:=[1]) (by kernel_rfl) (by simp) ?_
 refine AllReadyH.cons (o:=⟨some 18,.call ⟨.value (.func 4),#[.tmp 17,.const (Value.int IntKind.i64 8)],#[22,3]⟩,4, "law.go:55",#[⟨0,.data⟩],none⟩) rfl (fun K1 hK1=>?_) AllReadyH.nil
 go_simp
 first
 | (go_at_call 4;(with_reducible refine (QiM H8.out (S9.out.below hb) HN.out (by decide) HNc.out H1.out H2.out).mono ?_);rintro e w_f ⟨rfl,hh⟩
    (try replace XA:=XA.below hh);(try replace XB:=XB.below hh);(try replace XC:=XC.below hh);replace hb:=Qaj hb hh)
 refine hK1.out _ _ ⟨XA.c0,XA.c1,XA.c2,XA.c3,XA.c4,XA.c5,XB.c0,XB.c1,XB.c2,XB.c3,XB.c4,XB.c5,XC.c0,XC.c1,XC.c2,XC.c3,XC.c4,XC.c5⟩ (fun hHeld=>?_)
 clear hK1 K1
 refine wpAnyH_take (i:=2) (oi:=⟨some 19,.unOp UnOp.not 4 (.tmp 18),4, "law.go:55",#[⟨1,.data⟩],none⟩) (v:=?_) rfl (by kernel_rfl) (by kernel_rfl) (by kernel_rfl) (fun _ _ _ h=>h) (Or.inl ⟨by rfl,?_⟩) hHeld ?_
 rotate_left
 · (intro w hSw;(try dsimp only at hSw);go_simp;try with_reducible rfl)
 simp only [Act.put,List.setIfInBounds_toArray,List.set_cons_zero,List.set_cons_succ]
 refine wpAnyH_take (i:=3) (oi:=⟨some 20,.move (.tmp 19),4, "law.go:55",#[⟨2,.data⟩,⟨1,.chain⟩],none⟩) (v:=?_) rfl (by kernel_rfl) (by kernel_rfl) (by kernel_rfl) (fun _ _ _ h=>h) (Or.inl ⟨by rfl,?_⟩) hHeld ?_
 rotate_left
 · (intro w hSw;(try dsimp only at hSw);go_simp;try with_reducible rfl)
 simp only [Act.put,List.setIfInBounds_toArray,List.set_cons_zero,List.set_cons_succ]
 refine wpAnyH_take (i:=4) (oi:=⟨some 21,.load 29 (.tmp 5),29, "law.go:55",#[⟨3,.guard⟩],some (3,false)⟩) (v:=?_) rfl (by kernel_rfl) (by kernel_rfl) (by kernel_rfl) (fun _ _ _ h=>h) (Or.inl ⟨by rfl,?_⟩) hHeld ?_
 rotate_left
 · (intro w hSw;(try dsimp only at hSw);go_simp;try with_reducible rfl)
 simp only [Act.put,List.setIfInBounds_toArray,List.set_cons_zero,List.set_cons_succ]
 refine wpAnyH_take (i:=5) (oi:=⟨some 22,.load 29 (.tmp 6),29, "law.go:55",#[⟨3,.guard⟩],some (3,false)⟩) (v:=?_) rfl (by kernel_rfl) (by kernel_rfl) (by kernel_rfl) (fun _ _ _ h=>h) (Or.inl ⟨by rfl,?_⟩) hHeld ?_
 rotate_left
 · (intro w hSw;(try dsimp only at hSw);go_simp;try with_reducible rfl)
 simp only [Act.put,List.setIfInBounds_toArray,List.set_cons_zero,List.set_cons_succ]
 refine wpAnyH_take (i:=6) (oi:=⟨some 23,.load 29 (.tmp 7),29, "law.go:55",#[⟨3,.guard⟩],some (3,false)⟩) (v:=?_) rfl (by kernel_rfl) (by kernel_rfl) (by kernel_rfl) (fun _ _ _ h=>h) (Or.inl ⟨by rfl,?_⟩) hHeld ?_
 rotate_left
 · (intro w hSw;(try dsimp only at hSw);go_simp;try with_reducible rfl)
 simp only [Act.put,List.setIfInBounds_toArray,List.set_cons_zero,List.set_cons_succ]
 refine wpAnyH_ready (rs:=[7]) (by kernel_rfl) (by simp) ?_
 refine AllReadyH.cons (o:=⟨some 24,.buildSlice 22 3 #[(0,.tmp 21),(1,.tmp 22),(2,.tmp 23)],22, "law.go:55",#[⟨4,.data⟩,⟨5,.data⟩,⟨6,.data⟩,⟨3,.guard⟩],some (3,false)⟩) rfl (fun K1 hK1=>?_) AllReadyH.nil
 go_simp
 generalize hW:World.alloc _ _=W2
 obtain ⟨hh,XL,hzW2⟩:=QgF hW;clear hW;(try replace XA:=XA.below hh);(try replace XB:=XB.below hh);(try replace XC:=XC.below hh);replace hb:=Qaj hb hh
 refine hK1.out _ _ ⟨XA.c0,XA.c1,XA.c2,XA.c3,XA.c4,XA.c5,XB.c0,XB.c1,XB.c2,XB.c3,XB.c4,XB.c5,XC.c0,XC.c1,XC.c2,XC.c3,XC.c4,XC.c5⟩ (fun hHeld=>?_)
 clear hK1 K1
 refine wpAnyH_ready (rs:=[8]) (by kernel_rfl) (by simp) ?_
 refine AllReadyH.cons (o:=⟨some 25,.call ⟨.value (.func 5),#[.tmp 24],#[22]⟩,4, "law.go:55",#[⟨7,.data⟩,⟨3,.chain⟩,⟨3,.guard⟩],some (3,false)⟩) rfl (fun K1 hK1=>?_) AllReadyH.nil
 go_simp
 first
 | (go_at_call 5;(with_reducible refine (QsP XL true HL.out).mono ?_);rintro e w_z ⟨rfl,hh⟩
    clear XL;(try replace XA:=XA.below hh);(try replace XB:=XB.below hh);(try replace XC:=XC.below hh);replace hb:=Qaj hb hh)
 refine hK1.out _ _ ⟨XA.c0,XA.c1,XA.c2,XA.c3,XA.c4,XA.c5,XB.c0,XB.c1,XB.c2,XB.c3,XB.c4,XB.c5,XC.c0,XC.c1,XC.c2,XC.c3,XC.c4,XC.c5⟩ (fun hHeld=>?_)
 clear hK1 K1
 refine wpAnyH_take (i:=9) (oi:=⟨some 26,.unOp UnOp.not 4 (.tmp 25),4, "law.go:55",#[⟨8,.data⟩,⟨3,.guard⟩],some (3,false)⟩) (v:=?_) rfl (by kernel_rfl) (by kernel_rfl) (by kernel_rfl) (fun _ _ _ h=>h) (Or.inl ⟨by rfl,?_⟩) hHeld ?_
 rotate_left
 · (intro w hSw;(try dsimp only at hSw);go_simp;try with_reducible rfl)
 simp only [Act.put,List.setIfInBounds_toArray,List.set_cons_zero,List.set_cons_succ]
 refine wpAnyH_take (i:=10) (oi:=⟨some 27,.pick (.tmp 20) (.const (Value.bool true)) (.tmp 26),4, "law.go:55",#[⟨3,.data⟩,⟨9,.data⟩],none⟩) (v:=?_) rfl (by kernel_rfl) (by kernel_rfl) (by kernel_rfl) (fun _ _ _ h=>h) (Or.inl ⟨by rfl,?_⟩) hHeld ?_
 rotate_left
 · (intro w hSw;(try dsimp only at hSw);go_simp;try with_reducible rfl)
 simp only [Act.put,List.setIfInBounds_toArray,List.set_cons_zero,List.set_cons_succ]
 refine wpAnyH_take (i:=11) (oi:=⟨some 28,.move (.tmp 27),4, "law.go:55",#[⟨10,.data⟩,⟨8,.chain⟩],none⟩) (v:=?_) rfl (by kernel_rfl) (by kernel_rfl) (by kernel_rfl) (fun _ _ _ h=>h) (Or.inl ⟨by rfl,?_⟩) hHeld ?_
 rotate_left
 · (intro w hSw;(try dsimp only at hSw);go_simp;try with_reducible rfl)
 simp only [Act.put,List.setIfInBounds_toArray,List.set_cons_zero,List.set_cons_succ]
 refine wpAnyH_take (i:=12) (oi:=⟨some 29,.move (.tmp 0),22, "law.go:55",#[⟨11,.guard⟩],some (11,false)⟩) (v:=?_) rfl (by kernel_rfl) (by kernel_rfl) (by kernel_rfl) (fun _ _ _ h=>h) (Or.inl ⟨by rfl,?_⟩) hHeld ?_
 rotate_left
 · (intro w hSw;(try dsimp only at hSw);go_simp;try with_reducible rfl)
 simp only [Act.put,List.setIfInBounds_toArray,List.set_cons_zero,List.set_cons_succ]
 refine wpAnyH_ready (rs:=[13]) (by kernel_rfl) (by simp) ?_
 refine AllReadyH.cons (o:=⟨some 30,.call ⟨.value (.func 7),#[.tmp 29],#[22]⟩,34, "law.go:55",#[⟨12,.data⟩,⟨11,.chain⟩,⟨11,.guard⟩],some (11,false)⟩) rfl (fun K1 hK1=>?_) AllReadyH.nil
 go_simp
 first
 | (go_at_call 7;(with_reducible refine (rins (S9.out.below hb) (Each.belowP P9.out hb) HN.out H1k.out (by decide) (by decide)).mono ?_);rintro e w_s ⟨v_s,Ls,rfl,sL,sE,hh⟩
    obtain ⟨A_s,c_s,rfl,_,_⟩:=sL.form
    have sN:Ls.length=n:=by have:=sE.1;rw [HNl.out] at this;exact this
    rw [sN] at sL ⊢
    have HsN:=Lib.hid sN;clear sN;replace sE:=Lib.hid sE;replace XA:=XA.below hh;replace XB:=XB.below hh;replace XC:=XC.below hh;replace hb:=Qaj hb hh)
 refine hK1.out _ _ ⟨XA.c0,XA.c1,XA.c2,XA.c3,XA.c4,XA.c5,XB.c0,XB.c1,XB.c2,XB.c3,XB.c4,XB.c5,XC.c0,XC.c1,XC.c2,XC.c3,XC.c4,XC.c5⟩ (fun hHeld=>?_)
 clear hK1 K1
 refine wpAnyH_ready (rs:=[14]) (by kernel_rfl) (by simp) ?_
 refine AllReadyH.cons (o:=⟨some 31,.call ⟨.value (.func 6),#[.tmp 30],#[34]⟩,4, "law.go:55",#[⟨13,.data⟩,⟨13,.chain⟩,⟨11,.guard⟩],some (11,false)⟩) rfl (fun K1 hK1=>?_) AllReadyH.nil
 go_simp
 first
 | (go_at_call 6;(with_reducible refine (Qq5 (Ln.sv sL) sE.out HsN.out H1k.out (by decide) false HCV.out).mono ?_);rintro e w_z ⟨rfl,hh⟩
    (try replace XA:=XA.below hh);(try replace XB:=XB.below hh);(try replace XC:=XC.below hh);replace hb:=Qaj hb hh;clear sL sE HsN)
 refine hK1.out _ _ ⟨XA.c0,XA.c1,XA.c2,XA.c3,XA.c4,XA.c5,XB.c0,XB.c1,XB.c2,XB.c3,XB.c4,XB.c5,XC.c0,XC.c1,XC.c2,XC.c3,XC.c4,XC.c5⟩ (fun hHeld=>?_)
 clear hK1 K1
 refine wpAnyH_take (i:=15) (oi:=⟨some 32,.unOp UnOp.not 4 (.tmp 31),4, "law.go:55",#[⟨14,.data⟩,⟨11,.guard⟩],some (11,false)⟩) (v:=?_) rfl (by kernel_rfl) (by kernel_rfl) (by kernel_rfl) (fun _ _ _ h=>h) (Or.inl ⟨by rfl,?_⟩) hHeld ?_
 rotate_left
 · (intro w hSw;(try dsimp only at hSw);go_simp;try with_reducible rfl)
 simp only [Act.put,List.setIfInBounds_toArray,List.set_cons_zero,List.set_cons_succ]
 refine wpAnyH_take (i:=16) (oi:=⟨some 33,.pick (.tmp 28) (.const (Value.bool true)) (.tmp 32),4, "law.go:55",#[⟨11,.data⟩,⟨15,.data⟩],none⟩) (v:=?_) rfl (by kernel_rfl) (by kernel_rfl) (by kernel_rfl) (fun _ _ _ h=>h) (Or.inl ⟨by rfl,?_⟩) hHeld ?_
 rotate_left
 · (intro w hSw;(try dsimp only at hSw);go_simp;try with_reducible rfl)
 simp only [Act.put,List.setIfInBounds_toArray,List.set_cons_zero,List.set_cons_succ]
 refine wpAnyH_take (i:=17) (oi:=⟨some 34,.move (.tmp 33),4, "law.go:55",#[⟨16,.data⟩,⟨14,.chain⟩],none⟩) (v:=?_) rfl (by kernel_rfl) (by kernel_rfl) (by kernel_rfl) (fun _ _ _ h=>h) (Or.inl ⟨by rfl,?_⟩) hHeld ?_
 rotate_left
 · (intro w hSw;(try dsimp only at hSw);go_simp;try with_reducible rfl)
 simp only [Act.put,List.setIfInBounds_toArray,List.set_cons_zero,List.set_cons_succ]
 refine wpAnyH_take (i:=18) (oi:=⟨some 35,.load 29 (.tmp 5),29, "law.go:55",#[⟨17,.guard⟩],some (17,false)⟩) (v:=undef) rfl (by kernel_rfl) (by kernel_rfl) (by kernel_rfl) (fun _ _ _ h=>h) (Or.inr ⟨by rfl,rfl⟩) hHeld ?_
 simp only [Act.put,List.setIfInBounds_toArray,List.set_cons_zero,List.set_cons_succ]
 refine wpAnyH_take (i:=19) (oi:=⟨some 36,.call ⟨.value (.func 9),#[.tmp 35],#[29]⟩,44, "law.go:55",#[⟨18,.data⟩,⟨17,.chain⟩,⟨17,.guard⟩],some (17,false)⟩) (v:=undef) rfl (by kernel_rfl) (by kernel_rfl) (by kernel_rfl) (fun _ _ _ h=>h) (Or.inr ⟨by rfl,rfl⟩) hHeld ?_
 simp only [Act.put,List.setIfInBounds_toArray,List.set_cons_zero,List.set_cons_succ]
 refine wpAnyH_take (i:=20) (oi:=⟨some 37,.load 29 (.tmp 6),29, "law.go:55",#[⟨17,.guard⟩],some (17,false)⟩) (v:=undef) rfl (by kernel_rfl) (by kernel_rfl) (by kernel_rfl) (fun _ _ _ h=>h) (Or.inr ⟨by rfl,rfl⟩) hHeld ?_
 simp only [Act.put,List.setIfInBounds_toArray,List.set_cons_zero,List.set_cons_succ]
 refine wpAnyH_take (i:=21) (oi:=⟨some 38,.call ⟨.value (.func 9),#[.tmp 37],#[29]⟩,44, "law.go:55",#[⟨20,.data⟩,⟨19,.chain⟩,⟨17,.guard⟩],some (17,false)⟩) (v:=undef) rfl (by kernel_rfl) (by kernel_rfl) (by kernel_rfl) (fun _ _ _ h=>h) (Or.inr ⟨by rfl,rfl⟩) hHeld ?_
 simp only [Act.put,List.setIfInBounds_toArray,List.set_cons_zero,List.set_cons_succ]
 refine wpAnyH_take (i:=22) (oi:=⟨some 39,.call ⟨.value (.func 8),#[.tmp 36,.tmp 38],#[44,44]⟩,4, "law.go:55",#[⟨19,.data⟩,⟨21,.data⟩,⟨21,.chain⟩,⟨17,.guard⟩],some (17,false)⟩) (v:=undef) rfl (by kernel_rfl) (by kernel_rfl) (by kernel_rfl) (fun _ _ _ h=>h) (Or.inr ⟨by rfl,rfl⟩) hHeld ?_
 simp only [Act.put,List.setIfInBounds_toArray,List.set_cons_zero,List.set_cons_succ]
 refine wpAnyH_take (i:=23) (oi:=⟨some 40,.pick (.tmp 34) (.const (Value.bool true)) (.tmp 39),4, "law.go:55",#[⟨17,.data⟩,⟨22,.data⟩],none⟩) (v:=?_) rfl (by kernel_rfl) (by kernel_rfl) (by kernel_rfl) (fun _ _ _ h=>h) (Or.inl ⟨by rfl,?_⟩) hHeld ?_
 rotate_left
 · (intro w hSw;(try dsimp only at hSw);go_simp;try with_reducible rfl)
 simp only [Act.put,List.setIfInBounds_toArray,List.set_cons_zero,List.set_cons_succ]
 refine wpAnyH_done (by kernel_rfl) ?_ _
 clear hHeld
 go_wp2_with (first
  | (go_at_call 10;(with_reducible refine (Qcf _).mono ?_);rintro e w_z ⟨rfl,hh⟩
     replace hb:=Qaj hb hh))
 go_ret;exact ⟨rfl,hb⟩
end
section
open Go Go.RowKit
theorem Qk4 {A:Option Addr} {n c:Nat} {L:List PV} {l:List (Rat × Rat)} {ax ay bx by_ px py:Rat} (hL:SV w A (pvs L)) (hn:L.length=n) (hnc:n≤c) (hE:Each PV.PR w L l 4) (p:PR w s_p A_p n_p c_p B_p m_p d_p t_p E_p i_p e_p F_p j_p f_p ax ay 6) (q:PR w s_q A_q n_q c_q B_q m_q d_q t_q E_q i_q e_q F_q j_q f_q bx by_ 6) (r:PR w s_r A_r n_r c_r B_r m_r d_r t_r E_r i_r e_r F_r j_r f_r px py 6) (h:n≤8) (h2:∀ q ∈ L,q.small 4) (h3:(((n_p≤6∧m_p≤6)∧i_p≤6∧j_p≤6)∧((n_q≤6∧m_q≤6)∧i_q≤6∧j_q≤6)∧((n_r≤6∧m_r≤6)∧i_r≤6∧j_r≤6))) (h4:QdC l) (R:Bool) (h5:decide (ax=bx∧ay=by_)=R) (hC:R=false→Qdf (Qcn (QaH (QaN ax ay bx by_) l)+Qcn (QaH (QaN bx by_ ax ay) l)) (Qcn l)=0) (hX:R=false→Qck (Qcn (QaH (QaN ax ay bx by_) l))=0 ∨ (Qck (Qcn (QaH (QaN ax ay bx by_) l))=1∧QdC (QaH (QaN ax ay bx by_) l)∧(QkC l px py→0≤Qbz ax ay bx by_ px py→QkC (QaH (QaN ax ay bx by_) l) px py))) (hY:R=false→Qck (Qcn (QaH (QaN bx by_ ax ay) l))=0 ∨ (Qck (Qcn (QaH (QaN bx by_ ax ay) l))=1∧QdC (QaH (QaN bx by_ ax ay) l))) :
 Calls Tryz.prog 3 #[.slice A n c,.agg #[.bool s_p,.slice A_p n_p c_p,.slice B_p m_p d_p,.bool t_p,.slice E_p i_p e_p,.slice F_p j_p f_p,.bool s_q,.slice A_q n_q c_q,.slice B_q m_q d_q,.bool t_q,.slice E_q i_q e_q,.slice F_q j_q f_q,.bool s_r,.slice A_r n_r c_r,.slice B_r m_r d_r,.bool t_r,.slice E_r i_r e_r,.slice F_r j_r f_r]] w fun e w'=>e=.returned (.bool true)∧Below w.heap.size w w':=by
 have H8:Hid ((8:Int)=((8:Nat):Int)):=rfl
 have HL:Hid (decide (((n_p≤6∧m_p≤6)∧i_p≤6∧j_p≤6)∧((n_q≤6∧m_q≤6)∧i_q≤6∧j_q≤6)∧((n_r≤6∧m_r≤6)∧i_r≤6∧j_r≤6))=true):=decide_eq_true h3
 have HN:=Lib.hid hn;have HNc:=Lib.hid hnc;have S9:=Lib.hid hL;have H1:=Lib.hid h;have H2:=Lib.hid h2
 have H1k:Hid (n≤1000):=Nat.le_trans h (by decide)
 have HNl:Hid (l.length=n):=hE.1.symm.trans hn
 have P9:=Lib.hid hE;have P6:=Lib.hid p;have Q6:=Lib.hid q;have R6:=Lib.hid r;clear h3 hL hn hnc h h2 hE p q r
 have HCV:=Lib.hid (Qg3 h4)
 have HS:=Lib.hid h5;have HC0:=Lib.hid hC;have HX0:=Lib.hid hX;have HY0:=Lib.hid hY
 have H16:Hid (n≤16):=Nat.le_trans H1.out (by decide)
 clear h4 h5 hC hX hY
 go_enter Tryz.func3,Tryz.ntmps3
 go_upto_region 1 with (fail)
 generalize hW:World.alloc _ _=W
 obtain ⟨hb,XL0,hzW⟩:=QeI hW;clear hW
 refine QdB (by simp) rfl XL0 ?_
 intro V w_1 g_a g_b g_c XA hg_a hva XB hg_b hvb XC hg_c hvc hne1 hne2 hne3 hh
 simp only [Qam,Act.put,List.setIfInBounds_toArray,List.set_cons_zero,List.set_cons_succ,hva,hvb,hvc]
 clear hva hvb hvc XL0 hne1 hne2 hne3;replace hb:=Qaj hb hh
 go_upto_region 2 with (fail)
 replace XA:=XA.below (Below.refl _ _).drew
 replace XB:=XB.below (Below.refl _ _).drew
 replace XC:=XC.below (Below.refl _ _).drew
 replace hb:=hb.drew
 refine wp_region_held_drew (S:=(fun w'=>w'.cell? ⟨g_a,0,none⟩=some (.bool s_p)∧w'.cell? ⟨g_a,1,none⟩=some (.slice A_p n_p c_p)∧w'.cell? ⟨g_a,2,none⟩=some (.slice B_p m_p d_p)∧w'.cell? ⟨g_a,3,none⟩=some (.bool t_p)∧w'.cell? ⟨g_a,4,none⟩=some (.slice E_p i_p e_p)∧w'.cell? ⟨g_a,5,none⟩=some (.slice F_p j_p f_p)∧w'.cell? ⟨g_b,0,none⟩=some (.bool s_q)∧w'.cell? ⟨g_b,1,none⟩=some (.slice A_q n_q c_q)∧w'.cell? ⟨g_b,2,none⟩=some (.slice B_q m_q d_q)∧w'.cell? ⟨g_b,3,none⟩=some (.bool t_q)∧w'.cell? ⟨g_b,4,none⟩=some (.slice E_q i_q e_q)∧w'.cell? ⟨g_b,5,none⟩=some (.slice F_q j_q f_q)∧w'.cell? ⟨g_c,0,none⟩=some (.bool s_r)∧w'.cell? ⟨g_c,1,none⟩=some (.slice A_r n_r c_r)∧w'.cell? ⟨g_c,2,none⟩=some (.slice B_r m_r d_r)∧w'.cell? ⟨g_c,3,none⟩=some (.bool t_r)∧w'.cell? ⟨g_c,4,none⟩=some (.slice E_r i_r e_r)∧w'.cell? ⟨g_c,5,none⟩=some (.slice F_r j_r f_r))) (by kernel_rfl) ⟨XA.c0,XA.c1,XA.c2,XA.c3,XA.c4,XA.c5,XB.c0,XB.c1,XB.c2,XB.c3,XB.c4,XB.c5,XC.c0,XC.c1,XC.c2,XC.c3,XC.c4,XC.c5⟩ (fun hHeld=>?_)
 refine wpAnyH_take (i:=0) (oi:=⟨some 17,.move (.tmp 0),22, "law.go:55",#[],none⟩) (v:=?_) rfl (by kernel_rfl) (by kernel_rfl) (by kernel_rfl) (fun _ _ _ h=>h) (Or.inl ⟨by rfl,?_⟩) hHeld ?_
 rotate_left
 · (intro w hSw;(try dsimp only at hSw);go_simp;try with_reducible rfl)
 simp only [Act.put,List.setIfInBounds_toArray,List.set_cons_zero,List.set_cons_succ]
 refine wpAnyH_ready (rs:=[1]) (by kernel_rfl) (by simp) ?_
 refine AllReadyH.cons (o:=⟨some 18,.call ⟨.value (.func 4),#[.tmp 17,.const (Value.int IntKind.i64 8)],#[22,3]⟩,4, "law.go:55",#[⟨0,.data⟩],none⟩) rfl (fun K1 hK1=>?_) AllReadyH.nil
 go_simp
 first
 | (go_at_call 4;(with_reducible refine (QiM H8.out (S9.out.below hb) HN.out (by decide) HNc.out H1.out H2.out).mono ?_);rintro e w_f ⟨rfl,hh⟩
    (try replace XA:=XA.below hh);(try replace XB:=XB.below hh);(try replace XC:=XC.below hh);replace hb:=Qaj hb hh)
 refine hK1.out _ _ ⟨XA.c0,XA.c1,XA.c2,XA.c3,XA.c4,XA.c5,XB.c0,XB.c1,XB.c2,XB.c3,XB.c4,XB.c5,XC.c0,XC.c1,XC.c2,XC.c3,XC.c4,XC.c5⟩ (fun hHeld=>?_)
 clear hK1 K1
 refine wpAnyH_take (i:=2) (oi:=⟨some 19,.unOp UnOp.not 4 (.tmp 18),4, "law.go:55",#[⟨1,.data⟩],none⟩) (v:=?_) rfl (by kernel_rfl) (by kernel_rfl) (by kernel_rfl) (fun _ _ _ h=>h) (Or.inl ⟨by rfl,?_⟩) hHeld ?_
 rotate_left
 · (intro w hSw;(try dsimp only at hSw);go_simp;try with_reducible rfl)
 simp only [Act.put,List.setIfInBounds_toArray,List.set_cons_zero,List.set_cons_succ]
 refine wpAnyH_take (i:=3) (oi:=⟨some 20,.move (.tmp 19),4, "law.go:55",#[⟨2,.data⟩,⟨1,.chain⟩],none⟩) (v:=?_) rfl (by kernel_rfl) (by kernel_rfl) (by kernel_rfl) (fun _ _ _ h=>h) (Or.inl ⟨by rfl,?_⟩) hHeld ?_
 rotate_left
 · (intro w hSw;(try dsimp only at hSw);go_simp;try with_reducible rfl)
 simp only [Act.put,List.setIfInBounds_toArray,List.set_cons_zero,List.set_cons_succ]
 refine wpAnyH_take (i:=4) (oi:=⟨some 21,.load 29 (.tmp 5),29, "law.go:55",#[⟨3,.guard⟩],some (3,false)⟩) (v:=?_) rfl (by kernel_rfl) (by kernel_rfl) (by kernel_rfl) (fun _ _ _ h=>h) (Or.inl ⟨by rfl,?_⟩) hHeld ?_
 rotate_left
 · (intro w hSw;(try dsimp only at hSw);go_simp;try with_reducible rfl)
 simp only [Act.put,List.setIfInBounds_toArray,List.set_cons_zero,List.set_cons_succ]
 refine wpAnyH_take (i:=5) (oi:=⟨some 22,.load 29 (.tmp 6),29, "law.go:55",#[⟨3,.guard⟩],some (3,false)⟩) (v:=?_) rfl (by kernel_rfl) (by kernel_rfl) (by kernel_rfl) (fun _ _ _ h=>h) (Or.inl ⟨by rfl,?_⟩) hHeld ?_
 rotate_left
 · (intro w hSw;(try dsimp only at hSw);go_simp;try with_reducible rfl)
 simp only [Act.put,List.setIfInBounds_toArray,List.set_cons_zero,List.set_cons_succ]
 refine wpAnyH_take (i:=6) (oi:=⟨some 23,.load 29 (.tmp 7),29, "law.go:55",#[⟨3,.guard⟩],some (3,false)⟩) (v:=?_) rfl (by kernel_rfl) (by kernel_rfl) (by kernel_rfl) (fun _ _ _ h=>h) (Or.inl ⟨by rfl,?_⟩) hHeld ?_
 rotate_left
 · (intro w hSw;(try dsimp only at hSw);go_simp;try with_reducible rfl)
 simp only [Act.put,List.setIfInBounds_toArray,List.set_cons_zero,List.set_cons_succ]
 refine wpAnyH_ready (rs:=[7]) (by kernel_rfl) (by simp) ?_
 refine AllReadyH.cons (o:=⟨some 24,.buildSlice 22 3 #[(0,.tmp 21),(1,.tmp 22),(2,.tmp 23)],22, "law.go:55",#[⟨4,.data⟩,⟨5,.data⟩,⟨6,.data⟩,⟨3,.guard⟩],some (3,false)⟩) rfl (fun K1 hK1=>?_) AllReadyH.nil
 go_simp
 generalize hW:World.alloc _ _=W2
 obtain ⟨hh,XL,hzW2⟩:=QgF hW;clear hW;(try replace XA:=XA.below hh);(try replace XB:=XB.below hh);(try replace XC:=XC.below hh);replace hb:=Qaj hb hh
 refine hK1.out _ _ ⟨XA.c0,XA.c1,XA.c2,XA.c3,XA.c4,XA.c5,XB.c0,XB.c1,XB.c2,XB.c3,XB.c4,XB.c5,XC.c0,XC.c1,XC.c2,XC.c3,XC.c4,XC.c5⟩ (fun hHeld=>?_)
 clear hK1 K1
 refine wpAnyH_ready (rs:=[8]) (by kernel_rfl) (by simp) ?_
 refine AllReadyH.cons (o:=⟨some 25,.call ⟨.value (.func 5),#[.tmp 24],#[22]⟩,4, "law.go:55",#[⟨7,.data⟩,⟨3,.chain⟩,⟨3,.guard⟩],some (3,false)⟩) rfl (fun K1 hK1=>?_) AllReadyH.nil
 go_simp
 first
 | (go_at_call 5;(with_reducible refine (QsP XL true HL.out).mono ?_);rintro e w_z ⟨rfl,hh⟩
    clear XL;(try replace XA:=XA.below hh);(try replace XB:=XB.below hh);(try replace XC:=XC.below hh);replace hb:=Qaj hb hh)
 refine hK1.out _ _ ⟨XA.c0,XA.c1,XA.c2,XA.c3,XA.c4,XA.c5,XB.c0,XB.c1,XB.c2,XB.c3,XB.c4,XB.c5,XC.c0,XC.c1,XC.c2,XC.c3,XC.c4,XC.c5⟩ (fun hHeld=>?_)
 clear hK1 K1
 refine wpAnyH_take (i:=9) (oi:=⟨some 26,.unOp UnOp.not 4 (.tmp 25),4, "law.go:55",#[⟨8,.data⟩,⟨3,.guard⟩],some (3,false)⟩) (v:=?_) rfl (by kernel_rfl) (by kernel_rfl) (by kernel_rfl) (fun _ _ _ h=>h) (Or.inl ⟨by rfl,?_⟩) hHeld ?_
 rotate_left
 · (intro w hSw;(try dsimp only at hSw);go_simp;try with_reducible rfl)
 simp only [Act.put,List.setIfInBounds_toArray,List.set_cons_zero,List.set_cons_succ]
 refine wpAnyH_take (i:=10) (oi:=⟨some 27,.pick (.tmp 20) (.const (Value.bool true)) (.tmp 26),4, "law.go:55",#[⟨3,.data⟩,⟨9,.data⟩],none⟩) (v:=?_) rfl (by kernel_rfl) (by kernel_rfl) (by kernel_rfl) (fun _ _ _ h=>h) (Or.inl ⟨by rfl,?_⟩) hHeld ?_
 rotate_left
 · (intro w hSw;(try dsimp only at hSw);go_simp;try with_reducible rfl)
 simp only [Act.put,List.setIfInBounds_toArray,List.set_cons_zero,List.set_cons_succ]
 refine wpAnyH_take (i:=11) (oi:=⟨some 28,.move (.tmp 27),4, "law.go:55",#[⟨10,.data⟩,⟨8,.chain⟩],none⟩) (v:=?_) rfl (by kernel_rfl) (by kernel_rfl) (by kernel_rfl) (fun _ _ _ h=>h) (Or.inl ⟨by rfl,?_⟩) hHeld ?_
 rotate_left
 · (intro w hSw;(try dsimp only at hSw);go_simp;try with_reducible rfl)
 simp only [Act.put,List.setIfInBounds_toArray,List.set_cons_zero,List.set_cons_succ]
 refine wpAnyH_take (i:=12) (oi:=⟨some 29,.move (.tmp 0),22, "law.go:55",#[⟨11,.guard⟩],some (11,false)⟩) (v:=?_) rfl (by kernel_rfl) (by kernel_rfl) (by kernel_rfl) (fun _ _ _ h=>h) (Or.inl ⟨by rfl,?_⟩) hHeld ?_
 rotate_left
 · (intro w hSw;(try dsimp only at hSw);go_simp;try with_reducible rfl)
 simp only [Act.put,List.setIfInBounds_toArray,List.set_cons_zero,List.set_cons_succ]
 refine wpAnyH_ready (rs:=[13]) (by kernel_rfl) (by simp) ?_
 refine AllReadyH.cons (o:=⟨some 30,.call ⟨.value (.func 7),#[.tmp 29],#[22]⟩,34, "law.go:55",#[⟨12,.data⟩,⟨11,.chain⟩,⟨11,.guard⟩],some (11,false)⟩) rfl (fun K1 hK1=>?_) AllReadyH.nil
 go_simp
 first
 | (go_at_call 7;(with_reducible refine (rins (S9.out.below hb) (Each.belowP P9.out hb) HN.out H1k.out (by decide) (by decide)).mono ?_);rintro e w_s ⟨v_s,Ls,rfl,sL,sE,hh⟩
    obtain ⟨A_s,c_s,rfl,_,_⟩:=sL.form
    have sN:Ls.length=n:=by have:=sE.1;rw [HNl.out] at this;exact this
    rw [sN] at sL ⊢
    have HsN:=Lib.hid sN;clear sN;replace sE:=Lib.hid sE;replace XA:=XA.below hh;replace XB:=XB.below hh;replace XC:=XC.below hh;replace hb:=Qaj hb hh)
 refine hK1.out _ _ ⟨XA.c0,XA.c1,XA.c2,XA.c3,XA.c4,XA.c5,XB.c0,XB.c1,XB.c2,XB.c3,XB.c4,XB.c5,XC.c0,XC.c1,XC.c2,XC.c3,XC.c4,XC.c5⟩ (fun hHeld=>?_)
 clear hK1 K1
 refine wpAnyH_ready (rs:=[14]) (by kernel_rfl) (by simp) ?_
 refine AllReadyH.cons (o:=⟨some 31,.call ⟨.value (.func 6),#[.tmp 30],#[34]⟩,4, "law.go:55",#[⟨13,.data⟩,⟨13,.chain⟩,⟨11,.guard⟩],some (11,false)⟩) rfl (fun K1 hK1=>?_) AllReadyH.nil
 go_simp
 first
 | (go_at_call 6;(with_reducible refine (Qq5 (Ln.sv sL) sE.out HsN.out H1k.out (by decide) true HCV.out).mono ?_);rintro e w_z ⟨rfl,hh⟩
    (try replace XA:=XA.below hh);(try replace XB:=XB.below hh);(try replace XC:=XC.below hh);replace hb:=Qaj hb hh;clear sL sE HsN)
 refine hK1.out _ _ ⟨XA.c0,XA.c1,XA.c2,XA.c3,XA.c4,XA.c5,XB.c0,XB.c1,XB.c2,XB.c3,XB.c4,XB.c5,XC.c0,XC.c1,XC.c2,XC.c3,XC.c4,XC.c5⟩ (fun hHeld=>?_)
 clear hK1 K1
 refine wpAnyH_take (i:=15) (oi:=⟨some 32,.unOp UnOp.not 4 (.tmp 31),4, "law.go:55",#[⟨14,.data⟩,⟨11,.guard⟩],some (11,false)⟩) (v:=?_) rfl (by kernel_rfl) (by kernel_rfl) (by kernel_rfl) (fun _ _ _ h=>h) (Or.inl ⟨by rfl,?_⟩) hHeld ?_
 rotate_left
 · (intro w hSw;(try dsimp only at hSw);go_simp;try with_reducible rfl)
 simp only [Act.put,List.setIfInBounds_toArray,List.set_cons_zero,List.set_cons_succ]
 refine wpAnyH_take (i:=16) (oi:=⟨some 33,.pick (.tmp 28) (.const (Value.bool true)) (.tmp 32),4, "law.go:55",#[⟨11,.data⟩,⟨15,.data⟩],none⟩) (v:=?_) rfl (by kernel_rfl) (by kernel_rfl) (by kernel_rfl) (fun _ _ _ h=>h) (Or.inl ⟨by rfl,?_⟩) hHeld ?_
 rotate_left
 · (intro w hSw;(try dsimp only at hSw);go_simp;try with_reducible rfl)
 simp only [Act.put,List.setIfInBounds_toArray,List.set_cons_zero,List.set_cons_succ]
 refine wpAnyH_take (i:=17) (oi:=⟨some 34,.move (.tmp 33),4, "law.go:55",#[⟨16,.data⟩,⟨14,.chain⟩],none⟩) (v:=?_) rfl (by kernel_rfl) (by kernel_rfl) (by kernel_rfl) (fun _ _ _ h=>h) (Or.inl ⟨by rfl,?_⟩) hHeld ?_
 rotate_left
 · (intro w hSw;(try dsimp only at hSw);go_simp;try with_reducible rfl)
 simp only [Act.put,List.setIfInBounds_toArray,List.set_cons_zero,List.set_cons_succ]
 refine wpAnyH_take (i:=18) (oi:=⟨some 35,.load 29 (.tmp 5),29, "law.go:55",#[⟨17,.guard⟩],some (17,false)⟩) (v:=?_) rfl (by kernel_rfl) (by kernel_rfl) (by kernel_rfl) (fun _ _ _ h=>h) (Or.inl ⟨by rfl,?_⟩) hHeld ?_
 rotate_left
 · (intro w hSw;(try dsimp only at hSw);go_simp;try with_reducible rfl)
 simp only [Act.put,List.setIfInBounds_toArray,List.set_cons_zero,List.set_cons_succ]
 refine wpAnyH_take (i:=20) (oi:=⟨some 37,.load 29 (.tmp 6),29, "law.go:55",#[⟨17,.guard⟩],some (17,false)⟩) (v:=?_) rfl (by kernel_rfl) (by kernel_rfl) (by kernel_rfl) (fun _ _ _ h=>h) (Or.inl ⟨by rfl,?_⟩) hHeld ?_
 rotate_left
 · (intro w hSw;(try dsimp only at hSw);go_simp;try with_reducible rfl)
 simp only [Act.put,List.setIfInBounds_toArray,List.set_cons_zero,List.set_cons_succ]
 refine wpAnyH_ready (rs:=[19]) (by kernel_rfl) (by simp) ?_
 refine AllReadyH.cons (o:=⟨some 36,.call ⟨.value (.func 9),#[.tmp 35],#[29]⟩,44, "law.go:55",#[⟨18,.data⟩,⟨17,.chain⟩,⟨17,.guard⟩],some (17,false)⟩) rfl (fun K1 hK1=>?_) AllReadyH.nil
 go_simp
 first
 | (go_at_call 9;(with_reducible refine (rin6 (PR.below P6.out hb) (by decide) (by decide)).mono ?_);rintro e w_g ⟨s_g,A_g,n_g,c_g,B_g,m_g,d_g,t_g,E_g,i_g,e_g,F_g,j_g,f_g,rfl,g,hh⟩
    (try replace XA:=XA.below hh);(try replace XB:=XB.below hh);(try replace XC:=XC.below hh);replace hb:=Qaj hb hh)
 | (go_at_call 9;(with_reducible refine (rin6 (PR.below Q6.out hb) (by decide) (by decide)).mono ?_);rintro e w_k ⟨s_k,A_k,n_k,c_k,B_k,m_k,d_k,t_k,E_k,i_k,e_k,F_k,j_k,f_k,rfl,k,hh⟩
    (try replace XA:=XA.below hh);(try replace XB:=XB.below hh);(try replace XC:=XC.below hh);(try replace g:=g.below hh);replace hb:=Qaj hb hh)
 refine hK1.out _ _ ⟨XA.c0,XA.c1,XA.c2,XA.c3,XA.c4,XA.c5,XB.c0,XB.c1,XB.c2,XB.c3,XB.c4,XB.c5,XC.c0,XC.c1,XC.c2,XC.c3,XC.c4,XC.c5⟩ (fun hHeld=>?_)
 clear hK1 K1
 refine wpAnyH_ready (rs:=[21]) (by kernel_rfl) (by simp) ?_
 refine AllReadyH.cons (o:=⟨some 38,.call ⟨.value (.func 9),#[.tmp 37],#[29]⟩,44, "law.go:55",#[⟨20,.data⟩,⟨19,.chain⟩,⟨17,.guard⟩],some (17,false)⟩) rfl (fun K1 hK1=>?_) AllReadyH.nil
 go_simp
 first
 | (go_at_call 9;(with_reducible refine (rin6 (PR.below P6.out hb) (by decide) (by decide)).mono ?_);rintro e w_g ⟨s_g,A_g,n_g,c_g,B_g,m_g,d_g,t_g,E_g,i_g,e_g,F_g,j_g,f_g,rfl,g,hh⟩
    (try replace XA:=XA.below hh);(try replace XB:=XB.below hh);(try replace XC:=XC.below hh);replace hb:=Qaj hb hh)
 | (go_at_call 9;(with_reducible refine (rin6 (PR.below Q6.out hb) (by decide) (by decide)).mono ?_);rintro e w_k ⟨s_k,A_k,n_k,c_k,B_k,m_k,d_k,t_k,E_k,i_k,e_k,F_k,j_k,f_k,rfl,k,hh⟩
    (try replace XA:=XA.below hh);(try replace XB:=XB.below hh);(try replace XC:=XC.below hh);(try replace g:=g.below hh);replace hb:=Qaj hb hh)
 refine hK1.out _ _ ⟨XA.c0,XA.c1,XA.c2,XA.c3,XA.c4,XA.c5,XB.c0,XB.c1,XB.c2,XB.c3,XB.c4,XB.c5,XC.c0,XC.c1,XC.c2,XC.c3,XC.c4,XC.c5⟩ (fun hHeld=>?_)
 clear hK1 K1
 refine wpAnyH_ready (rs:=[22]) (by kernel_rfl) (by simp) ?_
 refine AllReadyH.cons (o:=⟨some 39,.call ⟨.value (.func 8),#[.tmp 36,.tmp 38],#[44,44]⟩,4, "law.go:55",#[⟨19,.data⟩,⟨21,.data⟩,⟨21,.chain⟩,⟨17,.guard⟩],some (17,false)⟩) rfl (fun K1 hK1=>?_) AllReadyH.nil
 go_simp
 first
 | (go_at_call 8;(with_reducible refine (Qjp g k (by omega) (by omega) R HS.out).mono ?_);rintro e w_z ⟨rfl,hh⟩
    (try replace XA:=XA.below hh);(try replace XB:=XB.below hh);(try replace XC:=XC.below hh);replace hb:=Qaj hb hh;clear g k)
 refine hK1.out _ _ ⟨XA.c0,XA.c1,XA.c2,XA.c3,XA.c4,XA.c5,XB.c0,XB.c1,XB.c2,XB.c3,XB.c4,XB.c5,XC.c0,XC.c1,XC.c2,XC.c3,XC.c4,XC.c5⟩ (fun hHeld=>?_)
 clear hK1 K1
 refine wpAnyH_take (i:=23) (oi:=⟨some 40,.pick (.tmp 34) (.const (Value.bool true)) (.tmp 39),4, "law.go:55",#[⟨17,.data⟩,⟨22,.data⟩],none⟩) (v:=?_) rfl (by kernel_rfl) (by kernel_rfl) (by kernel_rfl) (fun _ _ _ h=>h) (Or.inl ⟨by rfl,?_⟩) hHeld ?_
 rotate_left
 · (intro w hSw;(try dsimp only at hSw);go_simp;try with_reducible rfl)
 simp only [Act.put,List.setIfInBounds_toArray,List.set_cons_zero,List.set_cons_succ]
 refine wpAnyH_done (by kernel_rfl) ?_ _
 clear hHeld
 cases R
 rotate_left
 · go_wp2_with (first
     | (go_at_call 10;(with_reducible refine (Qcf _).mono ?_);rintro e w_z ⟨rfl,hh⟩
        replace hb:=Qaj hb hh))
   go_ret;exact ⟨rfl,hb⟩
 have HC:=Lib.hid (HC0.out rfl)
 have HX:=Lib.hid (HX0.out rfl)
 have HY:=Lib.hid (HY0.out rfl)
 go_upto_region 4 with (fail)
 replace XA:=XA.below (Below.refl _ _).drew
 replace XB:=XB.below (Below.refl _ _).drew
 replace XC:=XC.below (Below.refl _ _).drew
 replace hb:=hb.drew
 go_region_held3 (fun w'=>w'.cell? ⟨g_a,0,none⟩=some (.bool s_p)∧w'.cell? ⟨g_a,1,none⟩=some (.slice A_p n_p c_p)∧w'.cell? ⟨g_a,2,none⟩=some (.slice B_p m_p d_p)∧w'.cell? ⟨g_a,3,none⟩=some (.bool t_p)∧w'.cell? ⟨g_a,4,none⟩=some (.slice E_p i_p e_p)∧w'.cell? ⟨g_a,5,none⟩=some (.slice F_p j_p f_p)∧w'.cell? ⟨g_b,0,none⟩=some (.bool s_q)∧w'.cell? ⟨g_b,1,none⟩=some (.slice A_q n_q c_q)∧w'.cell? ⟨g_b,2,none⟩=some (.slice B_q m_q d_q)∧w'.cell? ⟨g_b,3,none⟩=some (.bool t_q)∧w'.cell? ⟨g_b,4,none⟩=some (.slice E_q i_q e_q)∧w'.cell? ⟨g_b,5,none⟩=some (.slice F_q j_q f_q))
  (first | with_reducible exact ⟨XA.c0,XA.c1,XA.c2,XA.c3,XA.c4,XA.c5,XB.c0,XB.c1,XB.c2,XB.c3,XB.c4,XB.c5⟩)
  (first
  | (go_at_call 11;(with_reducible refine (Qns (ka:=49) (S9.out.below hb) (Each.belowP P9.out hb) (PR.below P6.out hb) (PR.below Q6.out hb) HN.out H1k.out HNc.out (by decide) (by decide) (by decide) (by decide) (by decide) (by decide)).mono ?_);rintro e w_x ⟨v_x,Lx,rfl,xL,xE,hh⟩
     obtain ⟨A_x,c_x,rfl,hcx,_⟩:=xL.form
     have SX:=Lib.hid (Ln.sv xL)
     have EX:Hid (Each PV.PR w_x Lx (QaH (QaN ax ay bx by_) l) 162):=Each.pr xE
     have HCX:=Lib.hid hcx;clear xL xE hcx;replace XA:=XA.below hh;replace XB:=XB.below hh;replace XC:=XC.below hh;replace hb:=Qaj hb hh)
  | (go_at_call 11;(with_reducible refine (Qns (ka:=49) (S9.out.below hb) (Each.belowP P9.out hb) (PR.below Q6.out hb) (PR.below P6.out hb) HN.out H1k.out HNc.out (by decide) (by decide) (by decide) (by decide) (by decide) (by decide)).mono ?_);rintro e w_y ⟨v_y,Ly,rfl,yL,yE,hh⟩
     obtain ⟨A_y,c_y,rfl,hcy,_⟩:=yL.form
     have SY:=Lib.hid (Ln.sv yL)
     have EY:Hid (Each PV.PR w_y Ly (QaH (QaN bx by_ ax ay) l) 162):=Each.pr yE
     have HCY:=Lib.hid hcy;clear yL yE hcy
     replace SX:=Lib.hid (SX.out.below hh)
     replace EX:=Lib.hid (Each.belowP EX.out hh)
     replace XA:=XA.below hh;replace XB:=XB.below hh;replace XC:=XC.below hh;replace hb:=Qaj hb hh))
 have hb2:Below w_y.heap.size w_y w_y:=Below.refl _ _
 have HNX:Hid (Lx.length≤16):=by
  have h1:=EX.out.1
  have h2:=QiT (QaN ax ay bx by_) l
  have h3:=HNl.out;have h4:=H1.out
  show _≤_;omega
 have HNY:Hid (Ly.length≤16):=by
  have h1:=EY.out.1
  have h2:=QiT (QaN bx by_ ax ay) l
  have h3:=HNl.out;have h4:=H1.out
  show _≤_;omega
 have HKX:Hid (Lx.length≤1000):=Nat.le_trans HNX.out (by decide)
 have HKY:Hid (Ly.length≤1000):=Nat.le_trans HNY.out (by decide)
 obtain ⟨T,hT⟩:∃ T,Qbz ax ay bx by_ px py=T:=⟨_,rfl⟩
 obtain ⟨T0,hT0⟩:∃ T0,decide (0≤T)=T0:=⟨_,rfl⟩
 have HRH:Hid (QkC l px py ∨ ¬ QkC l px py):=Classical.em _
 have HOR:=Lib.hid hT
 have HHX:Hid (QkC l px py→0≤T→Qck (Qcn (QaH (QaN ax ay bx by_) l))=0 ∨ QkC (QaH (QaN ax ay bx by_) l) px py):=fun g1 g2=>by
  rcases HX.out with e | ⟨_,_,e⟩
  · exact .inl e
  · exact .inr (e g1 (by rw [hT];exact g2))
 clear hT
 rcases HRH.out with hH | hH <;> cases T0 <;> rcases HX.out with e | ⟨e,hv,-⟩ <;> rcases HY.out with e2 | ⟨e2,hv2⟩ <;> have HRH:=Lib.hid hH <;> have HSX:=Lib.hid e <;> have HSY:=Lib.hid e2 <;> clear hH e e2 <;> (try have HVX:=Lib.hid hv) <;> (try clear hv) <;> (try have HVY:=Lib.hid hv2) <;> (try clear hv2)
 all_goals
  go_upto_region 7 with (first
   | (go_at_call 14;(with_reducible refine (Qfk (SX.out.below hb2) (Each.belowP EX.out hb2) rfl HNX.out HCX.out).mono ?_);rintro e w_u ⟨s_u,A_u,n_u,c_u,B_u,m_u,d_u,rfl,u,hh⟩
      (try replace XA:=XA.below hh);(try replace XB:=XB.below hh);(try replace XC:=XC.below hh);(try replace u:=u.below hh);(try replace v:=v.below hh);(try replace o:=o.below hh);(try replace d:=d.below hh);replace hb:=Qaj hb hh;replace hb2:=Qaj hb2 hh)
   | (go_at_call 14;(with_reducible refine (Qfk (SY.out.below hb2) (Each.belowP EY.out hb2) rfl HNY.out HCY.out).mono ?_);rintro e w_v ⟨s_v,A_v,n_v,c_v,B_v,m_v,d_v,rfl,v,hh⟩
      (try replace XA:=XA.below hh);(try replace XB:=XB.below hh);(try replace XC:=XC.below hh);(try replace u:=u.below hh);(try replace v:=v.below hh);(try replace o:=o.below hh);(try replace d:=d.below hh);replace hb:=Qaj hb hh;replace hb2:=Qaj hb2 hh)
   | (go_at_call 13;(with_reducible refine (QiU u.qr v.qr (by decide) (by decide) (.inl (by decide)) (by decide) (by decide)).mono ?_);rintro e w_d ⟨s_d,A_d,n_d,c_d,B_d,m_d,d_d,rfl,d,hh⟩
      (try replace XA:=XA.below hh);(try replace XB:=XB.below hh);(try replace XC:=XC.below hh);(try replace u:=u.below hh);(try replace v:=v.below hh);(try replace o:=o.below hh);(try replace d:=d.below hh);replace hb:=Qaj hb hh;replace hb2:=Qaj hb2 hh)
   | (go_at_call 14;(with_reducible refine (Qmb (S9.out.below hb) (Each.belowP P9.out hb) HN.out H16.out HNc.out).mono ?_);rintro e w_o ⟨s_o,A_o,n_o,c_o,B_o,m_o,d_o,rfl,o,hh⟩
      (try replace XA:=XA.below hh);(try replace XB:=XB.below hh);(try replace XC:=XC.below hh);(try replace u:=u.below hh);(try replace v:=v.below hh);(try replace o:=o.below hh);(try replace d:=d.below hh);replace hb:=Qaj hb hh;replace hb2:=Qaj hb2 hh)
   | (go_at_call 12;(with_reducible refine (QfC d.qr o.qr (by decide) (by decide) (.inl (by decide)) (by decide) (by decide)).mono ?_);rintro e w_z ⟨rfl,hh⟩
      rw [HC.out];clear d o
      (try replace XA:=XA.below hh);(try replace XB:=XB.below hh);(try replace XC:=XC.below hh);(try replace u:=u.below hh);(try replace v:=v.below hh);(try replace o:=o.below hh);(try replace d:=d.below hh);replace hb:=Qaj hb hh;replace hb2:=Qaj hb2 hh)
   | (go_at_call 15;(with_reducible refine (QbI u.qr (by decide) (by decide)).mono ?_);rintro e w_z ⟨rfl,hh⟩
      rw [HSX.out];clear u
      (try replace XA:=XA.below hh);(try replace XB:=XB.below hh);(try replace XC:=XC.below hh);(try replace u:=u.below hh);(try replace v:=v.below hh);(try replace o:=o.below hh);(try replace d:=d.below hh);replace hb:=Qaj hb hh;replace hb2:=Qaj hb2 hh)
   | (go_at_call 15;(with_reducible refine (QbI v.qr (by decide) (by decide)).mono ?_);rintro e w_z ⟨rfl,hh⟩
      rw [HSY.out];clear v
      (try replace XA:=XA.below hh);(try replace XB:=XB.below hh);(try replace XC:=XC.below hh);(try replace u:=u.below hh);(try replace v:=v.below hh);(try replace o:=o.below hh);(try replace d:=d.below hh);replace hb:=Qaj hb hh;replace hb2:=Qaj hb2 hh))
  go_upto_region 9 with (first
   | (go_at_call 14;(with_reducible refine (Qfk (SX.out.below hb2) (Each.belowP EX.out hb2) rfl HNX.out HCX.out).mono ?_);rintro e w_u ⟨s_u,A_u,n_u,c_u,B_u,m_u,d_u,rfl,u,hh⟩
      (try replace XA:=XA.below hh);(try replace XB:=XB.below hh);(try replace XC:=XC.below hh);(try replace u:=u.below hh);(try replace v:=v.below hh);(try replace o:=o.below hh);(try replace d:=d.below hh);replace hb:=Qaj hb hh;replace hb2:=Qaj hb2 hh)
   | (go_at_call 15;(with_reducible refine (QbI u.qr (by decide) (by decide)).mono ?_);rintro e w_z ⟨rfl,hh⟩
      rw [HSX.out];clear u
      (try replace XA:=XA.below hh);(try replace XB:=XB.below hh);(try replace XC:=XC.below hh);(try replace u:=u.below hh);(try replace v:=v.below hh);(try replace o:=o.below hh);(try replace d:=d.below hh);replace hb:=Qaj hb hh;replace hb2:=Qaj hb2 hh)
   | (go_at_call 16;(with_reducible refine (Qig (SX.out.below hb2) (Each.belowP EX.out hb2) rfl HKX.out HCX.out (by decide) (by decide) true (Qg3 HVX.out)).mono ?_);rintro e w_z ⟨rfl,hh⟩
      (try replace XA:=XA.below hh);(try replace XB:=XB.below hh);(try replace XC:=XC.below hh);(try replace u:=u.below hh);(try replace v:=v.below hh);(try replace o:=o.below hh);(try replace d:=d.below hh);replace hb:=Qaj hb hh;replace hb2:=Qaj hb2 hh)
   | (go_at_call 14;(with_reducible refine (Qfk (SY.out.below hb2) (Each.belowP EY.out hb2) rfl HNY.out HCY.out).mono ?_);rintro e w_v ⟨s_v,A_v,n_v,c_v,B_v,m_v,d_v,rfl,v,hh⟩
      (try replace XA:=XA.below hh);(try replace XB:=XB.below hh);(try replace XC:=XC.below hh);(try replace u:=u.below hh);(try replace v:=v.below hh);(try replace o:=o.below hh);(try replace d:=d.below hh);replace hb:=Qaj hb hh;replace hb2:=Qaj hb2 hh)
   | (go_at_call 15;(with_reducible refine (QbI v.qr (by decide) (by decide)).mono ?_);rintro e w_z ⟨rfl,hh⟩
      rw [HSY.out];clear v
      (try replace XA:=XA.below hh);(try replace XB:=XB.below hh);(try replace XC:=XC.below hh);(try replace u:=u.below hh);(try replace v:=v.below hh);(try replace o:=o.below hh);(try replace d:=d.below hh);replace hb:=Qaj hb hh;replace hb2:=Qaj hb2 hh)
   | (go_at_call 16;(with_reducible refine (Qig (SY.out.below hb2) (Each.belowP EY.out hb2) rfl HKY.out HCY.out (by decide) (by decide) true (Qg3 HVY.out)).mono ?_);rintro e w_z ⟨rfl,hh⟩
      (try replace XA:=XA.below hh);(try replace XB:=XB.below hh);(try replace XC:=XC.below hh);(try replace u:=u.below hh);(try replace v:=v.below hh);(try replace o:=o.below hh);(try replace d:=d.below hh);replace hb:=Qaj hb hh;replace hb2:=Qaj hb2 hh))
  obtain ⟨xa0,xa1,xa2,xa3,xa4,xa5⟩:=XA.all;obtain ⟨xb0,xb1,xb2,xb3,xb4,xb5⟩:=XB.all;obtain ⟨xc0,xc1,xc2,xc3,xc4,xc5⟩:=XC.all
  go_wp2_with (first
   | (go_at_call 17;(with_reducible refine (QqE (S9.out.below hb) (Each.mor (Each.belowP P9.out hb) (show 4≤6 by decide)) (PR.below R6.out hb) HN.out H1k.out HNc.out (by decide) (by decide) true (Qg3 HRH.out)).mono ?_);rintro e w_z ⟨rfl,hh⟩
      (try replace XA:=XA.below hh);(try replace XB:=XB.below hh);(try replace XC:=XC.below hh);(try replace u:=u.below hh);(try replace v:=v.below hh);(try replace o:=o.below hh);(try replace d:=d.below hh);replace hb:=Qaj hb hh;obtain ⟨xa0,xa1,xa2,xa3,xa4,xa5⟩:=XA.all;obtain ⟨xb0,xb1,xb2,xb3,xb4,xb5⟩:=XB.all;obtain ⟨xc0,xc1,xc2,xc3,xc4,xc5⟩:=XC.all;replace hb2:=Qaj hb2 hh)
   | (go_at_call 17;(with_reducible refine (QqE (S9.out.below hb) (Each.mor (Each.belowP P9.out hb) (show 4≤6 by decide)) (PR.below R6.out hb) HN.out H1k.out HNc.out (by decide) (by decide) false (Qrr HRH.out)).mono ?_);rintro e w_z ⟨rfl,hh⟩
      (try replace XA:=XA.below hh);(try replace XB:=XB.below hh);(try replace XC:=XC.below hh);(try replace u:=u.below hh);(try replace v:=v.below hh);(try replace o:=o.below hh);(try replace d:=d.below hh);replace hb:=Qaj hb hh;obtain ⟨xa0,xa1,xa2,xa3,xa4,xa5⟩:=XA.all;obtain ⟨xb0,xb1,xb2,xb3,xb4,xb5⟩:=XB.all;obtain ⟨xc0,xc1,xc2,xc3,xc4,xc5⟩:=XC.all;replace hb2:=Qaj hb2 hh)
   | (go_at_call 18;(with_reducible refine (QiW (PR.below P6.out hb) (PR.below Q6.out hb) (PR.below R6.out hb) (by decide) (by decide)).mono ?_);rintro e w_z ⟨rfl,hh⟩
      rw [HOR.out];(try replace XA:=XA.below hh);(try replace XB:=XB.below hh);(try replace XC:=XC.below hh);(try replace u:=u.below hh);(try replace v:=v.below hh);(try replace o:=o.below hh);(try replace d:=d.below hh);replace hb:=Qaj hb hh;obtain ⟨xa0,xa1,xa2,xa3,xa4,xa5⟩:=XA.all;obtain ⟨xb0,xb1,xb2,xb3,xb4,xb5⟩:=XB.all;obtain ⟨xc0,xc1,xc2,xc3,xc4,xc5⟩:=XC.all;replace hb2:=Qaj hb2 hh)
   | (go_at_call 14;(with_reducible refine (Qfk (SX.out.below hb2) (Each.belowP EX.out hb2) rfl HNX.out HCX.out).mono ?_);rintro e w_u ⟨s_u,A_u,n_u,c_u,B_u,m_u,d_u,rfl,u,hh⟩
      (try replace XA:=XA.below hh);(try replace XB:=XB.below hh);(try replace XC:=XC.below hh);(try replace u:=u.below hh);(try replace v:=v.below hh);(try replace o:=o.below hh);(try replace d:=d.below hh);replace hb:=Qaj hb hh;obtain ⟨xa0,xa1,xa2,xa3,xa4,xa5⟩:=XA.all;obtain ⟨xb0,xb1,xb2,xb3,xb4,xb5⟩:=XB.all;obtain ⟨xc0,xc1,xc2,xc3,xc4,xc5⟩:=XC.all;replace hb2:=Qaj hb2 hh)
   | (go_at_call 15;(with_reducible refine (QbI u.qr (by decide) (by decide)).mono ?_);rintro e w_z ⟨rfl,hh⟩
      rw [HSX.out];clear u
      (try replace XA:=XA.below hh);(try replace XB:=XB.below hh);(try replace XC:=XC.below hh);(try replace u:=u.below hh);(try replace v:=v.below hh);(try replace o:=o.below hh);(try replace d:=d.below hh);replace hb:=Qaj hb hh;obtain ⟨xa0,xa1,xa2,xa3,xa4,xa5⟩:=XA.all;obtain ⟨xb0,xb1,xb2,xb3,xb4,xb5⟩:=XB.all;obtain ⟨xc0,xc1,xc2,xc3,xc4,xc5⟩:=XC.all;replace hb2:=Qaj hb2 hh)
   | (go_at_call 17;(with_reducible refine (QrQ (SX.out.below hb2) (Each.belowP EX.out hb2) (PR.more (PR.below R6.out hb) (show 6≤162 by decide)) rfl HKX.out HCX.out (by decide) (by decide) true (Qg3 ((HHX.out HRH.out (of_decide_eq_true hT0)).resolve_left (by rw [HSX.out];decide)))).mono ?_);rintro e w_z ⟨rfl,hh⟩
      (try replace XA:=XA.below hh);(try replace XB:=XB.below hh);(try replace XC:=XC.below hh);(try replace u:=u.below hh);(try replace v:=v.below hh);(try replace o:=o.below hh);(try replace d:=d.below hh);replace hb:=Qaj hb hh;obtain ⟨xa0,xa1,xa2,xa3,xa4,xa5⟩:=XA.all;obtain ⟨xb0,xb1,xb2,xb3,xb4,xb5⟩:=XB.all;obtain ⟨xc0,xc1,xc2,xc3,xc4,xc5⟩:=XC.all;replace hb2:=Qaj hb2 hh)
   | (go_at_call 10;(with_reducible refine (Qcf _).mono ?_);rintro e w_z ⟨rfl,hh⟩
      (try replace XA:=XA.below hh);(try replace XB:=XB.below hh);(try replace XC:=XC.below hh);(try replace u:=u.below hh);(try replace v:=v.below hh);(try replace o:=o.below hh);(try replace d:=d.below hh);replace hb:=Qaj hb hh;obtain ⟨xa0,xa1,xa2,xa3,xa4,xa5⟩:=XA.all;obtain ⟨xb0,xb1,xb2,xb3,xb4,xb5⟩:=XB.all;obtain ⟨xc0,xc1,xc2,xc3,xc4,xc5⟩:=XC.all;replace hb2:=Qaj hb2 hh))
  go_ret;exact ⟨rfl,hb⟩
end
section
open Go Go.RowKit
theorem Qn2 {v:Rat} (h:¬ 0 < v) (h0:0≤v):Qck v=0:=by
 have e:v=0:=Rat.le_antisymm (Rat.not_lt.1 h) h0
 rw [e];rfl
theorem Qo6 {v:Rat} (h:0 < v):Qck v=1:=by
 unfold Qck
 rw [if_neg (Rat.not_lt.2 (Rat.le_of_lt h)),if_neg (fun e=>by rw [e] at h;exact Rat.lt_irrefl h)]
theorem QpA {A:Option Addr} {n c:Nat} {L:List PV} {lap lbp lcp ldp:List Nat} {laq lbq lcq ldq:List Nat} {lar lbr lcr ldr:List Nat} (hL:SV w A (pvs L)) (hn:L.length=n) (hnc:n≤c) (hR:∀ q ∈ L,q.Raw w) (ap:Rd .u64 w A_p n_p lap) (bp:Rd .u64 w B_p m_p lbp) (up:Rd .u64 w E_p i_p lcp) (vp:Rd .u64 w F_p j_p ldp) (tap:Lim B64 lap) (tbp:Lim B64 lbp) (tcp:Lim B64 lcp) (tdp:Lim B64 ldp) (cap:n_p≤c_p) (cbp:m_p≤d_p) (ccp:i_p≤e_p) (cdp:j_p≤f_p) (aq:Rd .u64 w A_q n_q laq) (bq:Rd .u64 w B_q m_q lbq) (uq:Rd .u64 w E_q i_q lcq) (vq:Rd .u64 w F_q j_q ldq) (taq:Lim B64 laq) (tbq:Lim B64 lbq) (tcq:Lim B64 lcq) (tdq:Lim B64 ldq) (caq:n_q≤c_q) (cbq:m_q≤d_q) (ccq:i_q≤e_q) (cdq:j_q≤f_q) (ar:Rd .u64 w A_r n_r lar) (br:Rd .u64 w B_r m_r lbr) (ur:Rd .u64 w E_r i_r lcr) (vr:Rd .u64 w F_r j_r ldr) (tar:Lim B64 lar) (tbr:Lim B64 lbr) (tcr:Lim B64 lcr) (tdr:Lim B64 ldr) (car:n_r≤c_r) (cbr:m_r≤d_r) (ccr:i_r≤e_r) (cdr:j_r≤f_r) :
 Calls Tryz.prog 3 #[.slice A n c,.agg #[.bool s_p,.slice A_p n_p c_p,.slice B_p m_p d_p,.bool t_p,.slice E_p i_p e_p,.slice F_p j_p f_p,.bool s_q,.slice A_q n_q c_q,.slice B_q m_q d_q,.bool t_q,.slice E_q i_q e_q,.slice F_q j_q f_q,.bool s_r,.slice A_r n_r c_r,.slice B_r m_r d_r,.bool t_r,.slice E_r i_r e_r,.slice F_r j_r f_r]] w fun e w'=>e=.returned (.bool true)∧Below w.heap.size w w':=by
 by_cases h:n≤8
 · by_cases h2:∀ q ∈ L,q.small 4
   · by_cases h3:(((n_p≤6∧m_p≤6)∧i_p≤6∧j_p≤6)∧((n_q≤6∧m_q≤6)∧i_q≤6∧j_q≤6)∧((n_r≤6∧m_r≤6)∧i_r≤6∧j_r≤6))
     · obtain ⟨l,hE,ho,hz⟩:=Qju hR h2
       replace hE:=hE.pr ho
       generalize (l.map LV.val)=l at hE
       have p:PR w s_p A_p n_p c_p B_p m_p d_p t_p E_p i_p e_p F_p j_p f_p (mkRat (iv s_p (val B64 lap)) (Qa7 (val B64 lbp))) (mkRat (iv t_p (val B64 lcp)) (Qa7 (val B64 ldp))) 6:=⟨QR.of_rd ap tap cap bp tbp cbp h3.1.1.1 h3.1.1.2,QR.of_rd up tcp ccp vp tdp cdp h3.1.2.1 h3.1.2.2⟩
       have q:PR w s_q A_q n_q c_q B_q m_q d_q t_q E_q i_q e_q F_q j_q f_q (mkRat (iv s_q (val B64 laq)) (Qa7 (val B64 lbq))) (mkRat (iv t_q (val B64 lcq)) (Qa7 (val B64 ldq))) 6:=⟨QR.of_rd aq taq caq bq tbq cbq h3.2.1.1.1 h3.2.1.1.2,QR.of_rd uq tcq ccq vq tdq cdq h3.2.1.2.1 h3.2.1.2.2⟩
       have r:PR w s_r A_r n_r c_r B_r m_r d_r t_r E_r i_r e_r F_r j_r f_r (mkRat (iv s_r (val B64 lar)) (Qa7 (val B64 lbr))) (mkRat (iv t_r (val B64 lcr)) (Qa7 (val B64 ldr))) 6:=⟨QR.of_rd ar tar car br tbr cbr h3.2.2.1.1 h3.2.2.1.2,QR.of_rd ur tcr ccr vr tdr cdr h3.2.2.2.1 h3.2.2.2.2⟩
       generalize mkRat (iv s_p (val B64 lap)) (Qa7 (val B64 lbp))=ax at p
       generalize mkRat (iv t_p (val B64 lcp)) (Qa7 (val B64 ldp))=ay at p
       generalize mkRat (iv s_q (val B64 laq)) (Qa7 (val B64 lbq))=bx at q
       generalize mkRat (iv t_q (val B64 lcq)) (Qa7 (val B64 ldq))=by_ at q
       generalize mkRat (iv s_r (val B64 lar)) (Qa7 (val B64 lbr))=px at r
       generalize mkRat (iv t_r (val B64 lcr)) (Qa7 (val B64 ldr))=py at r
       by_cases h4:QdC l
       · by_cases h5:ax=bx∧ay=by_
         · exact Qk4 hL hn hnc hE p q r h h2 h3 h4 true (decide_eq_true h5) (fun e=>by cases e) (fun e=>by cases e) (fun e=>by cases e)
         · obtain ⟨c1,c2,c3,c4,c5,c6⟩:=Qqd h4 h5
           refine Qk4 hL hn hnc hE p q r h h2 h3 h4 false (decide_eq_false h5) (fun _=>by rw [c1];exact Qnq _) (fun _=>?_) (fun _=>?_)
           · by_cases k:0 < Qcn (QaH (QaN ax ay bx by_) l)
             · exact .inr ⟨Qo6 k,c4 k,fun g1 g2=>c6 (px,py) g1 g2 k⟩
             · exact .inl (Qn2 k c2)
           · by_cases k:0 < Qcn (QaH (QaN bx by_ ax ay) l)
             · exact .inr ⟨Qo6 k,c5 k⟩
             · exact .inl (Qn2 k c3)
       · exact Qrk hL hn hnc hE p q r h h2 h3 h4
     · exact Qrg hL hn hnc h h2 h3
   · exact Qq3 fun hb=>Qpn rfl (hL.below hb) hn (by decide) hnc h h2
 · exact Qq3 fun hb=>Qst rfl (hL.below hb) hn hnc h
end
end Go.Proofs.YthbhngeiiabagaaGreat
