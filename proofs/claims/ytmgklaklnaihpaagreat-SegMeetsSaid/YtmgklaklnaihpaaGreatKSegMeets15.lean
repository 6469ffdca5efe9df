/- SegMeets: part 15. -/
import Derived.Deep.AppendLies
import Derived.Test.YtmgklaklnaihpaaGreatKSegMeets14
set_option linter.unusedVariables false
set_option maxRecDepth 100000
set_option maxHeartbeats 16000000
variable {w:Go.World}
variable {s_p t_p:Bool} {A_p B_p E_p F_p:Option Go.Addr} {n_p c_p m_p d_p i_p e_p j_p f_p:Nat}
variable {s_q t_q:Bool} {A_q B_q E_q F_q:Option Go.Addr} {n_q c_q m_q d_q i_q e_q j_q f_q:Nat}
variable {s_a:Bool} {A_a B_a:Option Go.Addr} {n_a c_a m_a d_a:Nat}
variable {s_b:Bool} {A_b B_b:Option Go.Addr} {n_b c_b m_b d_b:Nat}
variable {s_c:Bool} {A_c B_c:Option Go.Addr} {n_c c_c m_c d_c:Nat}
variable {s_d:Bool} {A_d B_d:Option Go.Addr} {n_d c_d m_d d_d:Nat}
variable {s_f:Bool} {A_f B_f:Option Go.Addr} {n_f c_f m_f d_f:Nat}
variable {s_l:Bool} {A_l B_l:Option Go.Addr} {n_l c_l m_l d_l:Nat}
variable {s_v:Bool} {A_v B_v:Option Go.Addr} {n_v c_v m_v d_v:Nat}
variable {s_y:Bool} {A_y B_y:Option Go.Addr} {n_y c_y m_y d_y:Nat}
namespace Go.Proofs.YtmgklaklnaihpaaGreat
section
open Go Go.RowKit
def GivesQT (w:World) (v:Rat) (k:Nat) (e:Ending) (w':World):Prop :=
 ∃ s A n c B m d,e=.returned (.tuple #[.agg #[.bool s,.slice A n c,.slice B m d],.bool true])∧QG w' s A n c B m d v k∧Below w.heap.size w w'
def GivesNo (w:World) (e:Ending) (w':World):Prop :=
 e=.returned (.tuple #[.agg #[.bool false,.slice none 0 0,.slice none 0 0],.bool false])∧Below w.heap.size w w'
def VQT (V:Rat) (k:Nat) (x:Value) (w:World):Prop:=∃ s A n c B m d,x=.tuple #[.agg #[.bool s,.slice A n c,.slice B m d],.bool true]∧QG w s A n c B m d V k
theorem stays_qt (v:Rat) (k:Nat):Stays (VQT v k) :=
 ⟨fun _ _ _ ⟨s,A,n,c,B,m,d,h1,h2⟩ hb=>⟨s,A,n,c,B,m,d,h1,h2.below hb⟩,fun _ _ _ _ _ _ ⟨s,A,n,c,B,m,d,h1,h2⟩ hB ho=>⟨s,A,n,c,B,m,d,h1,h2.box hB ho⟩⟩
theorem store_kq {ac:Act} {x1 z:Operand} {y1 g:Nat} {pos:String} {af:Array Edge} {Q:Exit→Act→World→Prop} {s:Bool} {A B:Option Addr} {n c m d:Nat} (p1:ac.eval x1=.pointer (some ⟨g,0,none⟩)) (h:VK #[.bool s,.slice A n c,.slice B m d] (ac.eval z) w) (Z0:BoxAt 26 w g #[.bool false,.slice none 0 0,.slice none 0 0]) :
 (⟨none,.store 26 x1 z,y1,pos,af,none⟩:Oper).wp Tryz.prog ac w (fun a'' w''=>a''=ac∧Only g w w''∧∃ cs',BoxAt 26 w'' g cs'∧(fun cs _=>cs=#[.bool s,.slice A n c,.slice B m d]) cs' w'') Q:=by
 have Z:B3 w g (.bool false) (.slice none 0 0) (.slice none 0 0):=Z0.at_
 unfold Oper.wp
 rw [run_storeQ p1 h Z.c0 Z.c1 Z.c2 Z.f0 Z.f1 Z.f2,Oper.upon_skip]
 have ho:=(((Only.refl g w).setCell 0 (.bool s)).setCell 1 (.slice A n c)).setCell 2 (.slice B m d)
 exact ⟨put_none ac undef,ho,_,⟨Z.set3 _ _ _,free3 _ _ _ _ _ _ _⟩,rfl⟩
theorem sgn_nonneg1 {v:Rat}:0≤sgnQ v ↔ 0≤v:=by
 unfold sgnQ
 split
 · rename_i q;exact ⟨fun e=>absurd e (by decide),fun e=>absurd q (Rat.not_lt.2 e)⟩
 · rename_i q;exact ⟨fun _=>Rat.not_lt.1 q,fun _=>by split <;> decide⟩
def shareOK (p w:Rat):Prop:=w ≠ 0∧0≤p / w∧p / w≤1
theorem share_yes {k1 k2:Nat} {xp xw:Rat} (p:QR w s_p A_p n_p c_p B_p m_p d_p xp k1) (q:QR w s_q A_q n_q c_q B_q m_q d_q xw k2) (h1:k1≤180) (h2:k2≤180) (g1:1≤k1) (g2:1≤k2) (h:shareOK xp xw) :
 Calls Tryz.prog 89 #[.agg #[.bool s_p,.slice A_p n_p c_p,.slice B_p m_p d_p],.agg #[.bool s_q,.slice A_q n_q c_q,.slice B_q m_q d_q]] w (GivesQT w (xp / xw) (k1+k2)):=by
 obtain ⟨hz,hl,hg⟩:=h
 have HZ:=Lib.hid hz
 obtain ⟨U,hU,hU0⟩:∃ U,sgnQ (xp / xw)=U∧decide (U < 0)=false:=⟨_,rfl,decide_eq_false (Int.not_lt.2 (sgn_nonneg1.2 hl))⟩
 have HU:=Lib.hid hU;clear hU hl
 obtain ⟨T,hT,hT0⟩:∃ T,cmpQ (xp / xw) (Rat.divInt 1 1)=T∧decide (0 < T)=false:=⟨_,rfl,decide_eq_false (Int.not_lt.2 (cmpQ_le.2 hg))⟩
 have HT:=Lib.hid hT;clear hT hg;clear hz
 go_enter Tryz.func89,Tryz.ntmps89
 go_wp2_with fail
 generalize hW:World.alloc _ _=W
 obtain ⟨hb,XA,XB,Z,hzW⟩:=mkbx16_9 hW;clear hW;replace p:=p.below hb;replace q:=q.below hb;obtain ⟨xa0,xa1,xa2⟩:=XA.all;obtain ⟨xb0,xb1,xb2⟩:=XB.all
 go_upto_region 2 with (first
  | (go_at_call 47;(with_reducible refine (rdiv_q p q (by omega) (by omega) (.inl (by omega)) g1 g2 HZ.out).mono ?_);rintro e w_d ⟨s_d,A_d,n_d,c_d,B_d,m_d,d_d,rfl,d,hh⟩
     (try replace Z:=Z.below hh);replace hb:=bend hb hh))
 generalize hW:World.alloc _ _=W2
 obtain ⟨hh,XD,hzW2⟩:=mkbx12_8 hW;clear hW;(try replace d:=d.below hh);(try replace Z:=Z.below hh);replace hb:=bend hb hh
 replace d:=d.below (Below.refl _ _).drew
 replace Z:=Z.below (Below.refl _ _).drew
 replace XD:=XD.below (Below.refl _ _).drew
 replace hb:=hb.drew
 go_region_held3 (fun w'=>w'.cell? ⟨w_d.heap.size,0,none⟩=some (.bool s_d)∧w'.cell? ⟨w_d.heap.size,1,none⟩=some (.slice A_d n_d c_d)∧w'.cell? ⟨w_d.heap.size,2,none⟩=some (.slice B_d m_d d_d))
  (first | with_reducible exact ⟨XD.c0,XD.c1,XD.c2⟩)
  (first
  | (go_at_call 87;(with_reducible refine (rsign_q d.qr (by omega) (by omega)).mono ?_);rintro e w_z ⟨rfl,hh⟩
     rw [HU.out];(try replace d:=d.below hh);(try replace Z:=Z.below hh);(try replace XD:=XD.below hh);replace hb:=bend hb hh)
  | (go_at_call 23;(with_reducible refine (rof_q 1 1 (by decide) (by decide) (by decide) (by decide) (by decide) _).mono ?_);rintro e w_o ⟨s_o,A_o,n_o,c_o,B_o,m_o,d_o,rfl,o,hh⟩
     (try replace d:=d.below hh);(try replace Z:=Z.below hh);(try replace XD:=XD.below hh);replace hb:=bend hb hh)
  | (go_at_call 45;(with_reducible refine (rcmp_q d.qr o.qr (by omega) (by omega) (.inl (by omega)) (by omega) (by omega)).mono ?_);rintro e w_z ⟨rfl,hh⟩
     rw [HT.out];(try replace d:=d.below hh);(try replace Z:=Z.below hh);(try replace XD:=XD.below hh);replace hb:=bend hb hh;clear o))
 obtain ⟨xd0,xd1,xd2⟩:=XD.all;have zf0:=Z.f0;have zf1:=Z.f1;have zf2:=Z.f2;obtain ⟨z0,z1,z2⟩:=Z.all
 go_wp2_with fail
 have Z2:=Z.set3 (.bool s_d) (.slice A_d n_d c_d) (.slice B_d m_d d_d)
 obtain ⟨g0,g1,g2⟩:=Z2.all
 refine bodyPost_ret (v:=.tuple #[.agg #[.bool s_d,.slice A_d n_d c_d,.slice B_d m_d d_d],.bool true]) (by simp [results,Tryz.results89,go_sem,g0,g1,g2]) rfl ?_
 exact ⟨s_d,A_d,n_d,c_d,B_d,m_d,d_d,rfl,d.set3 Z _ _ _,below_set3 hb (by omega) _ _ _⟩
theorem share_z {k1 k2:Nat} {xp xw:Rat} (p:QR w s_p A_p n_p c_p B_p m_p d_p xp k1) (q:QR w s_q A_q n_q c_q B_q m_q d_q xw k2) (h1:k1≤180) (h2:k2≤180) (g1:1≤k1) (g2:1≤k2) (hz:xw=0) :
 Calls Tryz.prog 89 #[.agg #[.bool s_p,.slice A_p n_p c_p,.slice B_p m_p d_p],.agg #[.bool s_q,.slice A_q n_q c_q,.slice B_q m_q d_q]] w (GivesNo w):=by
 have HZ:=Lib.hid hz;clear hz
 go_enter Tryz.func89,Tryz.ntmps89
 go_wp2_with fail
 generalize hW:World.alloc _ _=W
 obtain ⟨hb,XA,XB,Z,hzW⟩:=mkbx16_9 hW;clear hW;replace p:=p.below hb;replace q:=q.below hb;obtain ⟨xa0,xa1,xa2⟩:=XA.all;obtain ⟨xb0,xb1,xb2⟩:=XB.all
 go_upto_region 2 with (first
  | (go_at_call 47;(with_reducible refine (rdiv_zero p q (by omega) (by omega) (.inl (by omega)) g1 g2 HZ.out).mono ?_);rintro e w_z ⟨rfl,hh⟩
     (try replace Z:=Z.below hh);replace hb:=bend hb hh))
 generalize hW:World.alloc _ _=W2
 obtain ⟨hh,XD,hzW2⟩:=mkbx12_8 hW;clear hW;(try replace Z:=Z.below hh);replace hb:=bend hb hh
 replace Z:=Z.below (Below.refl _ _).drew
 replace XD:=XD.below (Below.refl _ _).drew
 replace hb:=hb.drew
 refine wp_region_held_drew (S:=(fun w'=>w'.cell? ⟨w_z.heap.size,0,none⟩=some (.bool false)∧w'.cell? ⟨w_z.heap.size,1,none⟩=some (.slice none 0 0)∧w'.cell? ⟨w_z.heap.size,2,none⟩=some (.slice none 0 0))) (by kernel_rfl) ⟨XD.c0,XD.c1,XD.c2⟩ (fun hHeld=>?_)
 refine wpAnyH_take (i:=0) (oi:=⟨some 14,.move (.tmp 7),29, "level.go:34",#[],none⟩) (v:=?_) rfl (by kernel_rfl) (by kernel_rfl) (by kernel_rfl) (fun _ _ _ h=>h) (Or.inl ⟨by rfl,?_⟩) hHeld ?_
 rotate_left
 · (intro w hSw;(try dsimp only at hSw);go_simp;try with_reducible rfl)
 simp only [Act.put,List.setIfInBounds_toArray,List.set_cons_zero,List.set_cons_succ]
 refine wpAnyH_take (i:=1) (oi:=⟨some 15,.binOp BinOp.neq 29 (.tmp 14) (.const (Value.int IntKind.i64 0)) 29,4, "level.go:34",#[⟨0,.data⟩],none⟩) (v:=?_) rfl (by kernel_rfl) (by kernel_rfl) (by kernel_rfl) (fun _ _ _ h=>h) (Or.inl ⟨by rfl,?_⟩) hHeld ?_
 rotate_left
 · (intro w hSw;(try dsimp only at hSw);go_simp;try with_reducible rfl)
 simp only [Act.put,List.setIfInBounds_toArray,List.set_cons_zero,List.set_cons_succ]
 refine wpAnyH_take (i:=2) (oi:=⟨some 16,.move (.tmp 15),4, "level.go:34",#[⟨1,.data⟩],none⟩) (v:=?_) rfl (by kernel_rfl) (by kernel_rfl) (by kernel_rfl) (fun _ _ _ h=>h) (Or.inl ⟨by rfl,?_⟩) hHeld ?_
 rotate_left
 · (intro w hSw;(try dsimp only at hSw);go_simp;try with_reducible rfl)
 simp only [Act.put,List.setIfInBounds_toArray,List.set_cons_zero,List.set_cons_succ]
 refine wpAnyH_take (i:=3) (oi:=⟨some 17,.load 26 (.tmp 6),26, "level.go:34",#[⟨2,.guard⟩],some (2,false)⟩) (v:=undef) rfl (by kernel_rfl) (by kernel_rfl) (by kernel_rfl) (fun _ _ _ h=>h) (Or.inr ⟨by rfl,rfl⟩) hHeld ?_
 simp only [Act.put,List.setIfInBounds_toArray,List.set_cons_zero,List.set_cons_succ]
 refine wpAnyH_take (i:=4) (oi:=⟨some 18,.call ⟨.value (.func 87),#[.tmp 17],#[26]⟩,3, "level.go:34",#[⟨3,.data⟩,⟨2,.chain⟩,⟨2,.guard⟩],some (2,false)⟩) (v:=undef) rfl (by kernel_rfl) (by kernel_rfl) (by kernel_rfl) (fun _ _ _ h=>h) (Or.inr ⟨by rfl,rfl⟩) hHeld ?_
 simp only [Act.put,List.setIfInBounds_toArray,List.set_cons_zero,List.set_cons_succ]
 refine wpAnyH_take (i:=5) (oi:=⟨some 19,.binOp BinOp.lss 3 (.tmp 18) (.const (Value.int IntKind.i64 0)) 3,4, "level.go:34",#[⟨4,.data⟩,⟨2,.guard⟩],some (2,false)⟩) (v:=undef) rfl (by kernel_rfl) (by kernel_rfl) (by kernel_rfl) (fun _ _ _ h=>h) (Or.inr ⟨by rfl,rfl⟩) hHeld ?_
 simp only [Act.put,List.setIfInBounds_toArray,List.set_cons_zero,List.set_cons_succ]
 refine wpAnyH_take (i:=6) (oi:=⟨some 20,.pick (.tmp 16) (.const (Value.bool true)) (.tmp 19),4, "level.go:34",#[⟨2,.data⟩,⟨5,.data⟩],none⟩) (v:=?_) rfl (by kernel_rfl) (by kernel_rfl) (by kernel_rfl) (fun _ _ _ h=>h) (Or.inl ⟨by rfl,?_⟩) hHeld ?_
 rotate_left
 · (intro w hSw;(try dsimp only at hSw);go_simp;try with_reducible rfl)
 simp only [Act.put,List.setIfInBounds_toArray,List.set_cons_zero,List.set_cons_succ]
 refine wpAnyH_take (i:=7) (oi:=⟨some 21,.move (.tmp 20),4, "level.go:34",#[⟨6,.data⟩,⟨4,.chain⟩],none⟩) (v:=?_) rfl (by kernel_rfl) (by kernel_rfl) (by kernel_rfl) (fun _ _ _ h=>h) (Or.inl ⟨by rfl,?_⟩) hHeld ?_
 rotate_left
 · (intro w hSw;(try dsimp only at hSw);go_simp;try with_reducible rfl)
 simp only [Act.put,List.setIfInBounds_toArray,List.set_cons_zero,List.set_cons_succ]
 refine wpAnyH_take (i:=8) (oi:=⟨some 22,.load 26 (.tmp 6),26, "level.go:34",#[⟨7,.guard⟩],some (7,false)⟩) (v:=undef) rfl (by kernel_rfl) (by kernel_rfl) (by kernel_rfl) (fun _ _ _ h=>h) (Or.inr ⟨by rfl,rfl⟩) hHeld ?_
 simp only [Act.put,List.setIfInBounds_toArray,List.set_cons_zero,List.set_cons_succ]
 refine wpAnyH_take (i:=9) (oi:=⟨some 23,.call ⟨.value (.func 23),#[.const (Value.int IntKind.i64 1),.const (Value.int IntKind.i64 1)],#[2,2]⟩,26, "level.go:34",#[⟨7,.chain⟩,⟨7,.guard⟩],some (7,false)⟩) (v:=undef) rfl (by kernel_rfl) (by kernel_rfl) (by kernel_rfl) (fun _ _ _ h=>h) (Or.inr ⟨by rfl,rfl⟩) hHeld ?_
 simp only [Act.put,List.setIfInBounds_toArray,List.set_cons_zero,List.set_cons_succ]
 refine wpAnyH_take (i:=10) (oi:=⟨some 24,.call ⟨.value (.func 45),#[.tmp 22,.tmp 23],#[26,26]⟩,3, "level.go:34",#[⟨8,.data⟩,⟨9,.data⟩,⟨9,.chain⟩,⟨7,.guard⟩],some (7,false)⟩) (v:=undef) rfl (by kernel_rfl) (by kernel_rfl) (by kernel_rfl) (fun _ _ _ h=>h) (Or.inr ⟨by rfl,rfl⟩) hHeld ?_
 simp only [Act.put,List.setIfInBounds_toArray,List.set_cons_zero,List.set_cons_succ]
 refine wpAnyH_take (i:=11) (oi:=⟨some 25,.binOp BinOp.gtr 3 (.tmp 24) (.const (Value.int IntKind.i64 0)) 3,4, "level.go:34",#[⟨10,.data⟩,⟨7,.guard⟩],some (7,false)⟩) (v:=undef) rfl (by kernel_rfl) (by kernel_rfl) (by kernel_rfl) (fun _ _ _ h=>h) (Or.inr ⟨by rfl,rfl⟩) hHeld ?_
 simp only [Act.put,List.setIfInBounds_toArray,List.set_cons_zero,List.set_cons_succ]
 refine wpAnyH_take (i:=12) (oi:=⟨some 26,.pick (.tmp 21) (.const (Value.bool true)) (.tmp 25),4, "level.go:34",#[⟨7,.data⟩,⟨11,.data⟩],none⟩) (v:=?_) rfl (by kernel_rfl) (by kernel_rfl) (by kernel_rfl) (fun _ _ _ h=>h) (Or.inl ⟨by rfl,?_⟩) hHeld ?_
 rotate_left
 · (intro w hSw;(try dsimp only at hSw);go_simp;try with_reducible rfl)
 simp only [Act.put,List.setIfInBounds_toArray,List.set_cons_zero,List.set_cons_succ]
 refine wpAnyH_done (by kernel_rfl) ?_ _
 clear hHeld
 generalize W2.drew=W3 at *
 obtain ⟨xd0,xd1,xd2⟩:=XD.all;have zf0:=Z.f0;have zf1:=Z.f1;have zf2:=Z.f2;obtain ⟨z0,z1,z2⟩:=Z.all
 go_wp2_with fail
 have Z2:=Z.set3 (.bool false) (.slice none 0 0) (.slice none 0 0)
 obtain ⟨g0,g1,g2⟩:=Z2.all
 refine bodyPost_ret (v:=.tuple #[.agg #[.bool false,.slice none 0 0,.slice none 0 0],.bool false]) (by simp [results,Tryz.results89,go_sem,g0,g1,g2]) rfl ?_
 exact ⟨rfl,below_set3 hb (by omega) _ _ _⟩
theorem share_lt {k1 k2:Nat} {xp xw:Rat} (p:QR w s_p A_p n_p c_p B_p m_p d_p xp k1) (q:QR w s_q A_q n_q c_q B_q m_q d_q xw k2) (h1:k1≤180) (h2:k2≤180) (g1:1≤k1) (g2:1≤k2) (hz:xw ≠ 0) (hl:¬ 0≤xp / xw) :
 Calls Tryz.prog 89 #[.agg #[.bool s_p,.slice A_p n_p c_p,.slice B_p m_p d_p],.agg #[.bool s_q,.slice A_q n_q c_q,.slice B_q m_q d_q]] w (GivesNo w):=by
 have HZ:=Lib.hid hz
 obtain ⟨U,hU,hU0⟩:∃ U,sgnQ (xp / xw)=U∧decide (U < 0)=true:=⟨_,rfl,decide_eq_true (Int.not_le.1 (fun e=>hl (sgn_nonneg1.1 e)))⟩
 have HU:=Lib.hid hU;clear hU hl;clear hz
 go_enter Tryz.func89,Tryz.ntmps89
 go_wp2_with fail
 generalize hW:World.alloc _ _=W
 obtain ⟨hb,XA,XB,Z,hzW⟩:=mkbx16_9 hW;clear hW;replace p:=p.below hb;replace q:=q.below hb;obtain ⟨xa0,xa1,xa2⟩:=XA.all;obtain ⟨xb0,xb1,xb2⟩:=XB.all
 go_upto_region 2 with (first
  | (go_at_call 47;(with_reducible refine (rdiv_q p q (by omega) (by omega) (.inl (by omega)) g1 g2 HZ.out).mono ?_);rintro e w_d ⟨s_d,A_d,n_d,c_d,B_d,m_d,d_d,rfl,d,hh⟩
     (try replace Z:=Z.below hh);replace hb:=bend hb hh))
 generalize hW:World.alloc _ _=W2
 obtain ⟨hh,XD,hzW2⟩:=mkbx12_8 hW;clear hW;(try replace d:=d.below hh);(try replace Z:=Z.below hh);replace hb:=bend hb hh
 replace d:=d.below (Below.refl _ _).drew
 replace Z:=Z.below (Below.refl _ _).drew
 replace XD:=XD.below (Below.refl _ _).drew
 replace hb:=hb.drew
 refine wp_region_held_drew (S:=(fun w'=>w'.cell? ⟨w_d.heap.size,0,none⟩=some (.bool s_d)∧w'.cell? ⟨w_d.heap.size,1,none⟩=some (.slice A_d n_d c_d)∧w'.cell? ⟨w_d.heap.size,2,none⟩=some (.slice B_d m_d d_d))) (by kernel_rfl) ⟨XD.c0,XD.c1,XD.c2⟩ (fun hHeld=>?_)
 refine wpAnyH_take (i:=0) (oi:=⟨some 14,.move (.tmp 7),29, "level.go:34",#[],none⟩) (v:=?_) rfl (by kernel_rfl) (by kernel_rfl) (by kernel_rfl) (fun _ _ _ h=>h) (Or.inl ⟨by rfl,?_⟩) hHeld ?_
 rotate_left
 · (intro w hSw;(try dsimp only at hSw);go_simp;try with_reducible rfl)
 simp only [Act.put,List.setIfInBounds_toArray,List.set_cons_zero,List.set_cons_succ]
 refine wpAnyH_take (i:=1) (oi:=⟨some 15,.binOp BinOp.neq 29 (.tmp 14) (.const (Value.int IntKind.i64 0)) 29,4, "level.go:34",#[⟨0,.data⟩],none⟩) (v:=?_) rfl (by kernel_rfl) (by kernel_rfl) (by kernel_rfl) (fun _ _ _ h=>h) (Or.inl ⟨by rfl,?_⟩) hHeld ?_
 rotate_left
 · (intro w hSw;(try dsimp only at hSw);go_simp;try with_reducible rfl)
 simp only [Act.put,List.setIfInBounds_toArray,List.set_cons_zero,List.set_cons_succ]
 refine wpAnyH_take (i:=2) (oi:=⟨some 16,.move (.tmp 15),4, "level.go:34",#[⟨1,.data⟩],none⟩) (v:=?_) rfl (by kernel_rfl) (by kernel_rfl) (by kernel_rfl) (fun _ _ _ h=>h) (Or.inl ⟨by rfl,?_⟩) hHeld ?_
 rotate_left
 · (intro w hSw;(try dsimp only at hSw);go_simp;try with_reducible rfl)
 simp only [Act.put,List.setIfInBounds_toArray,List.set_cons_zero,List.set_cons_succ]
 refine wpAnyH_take (i:=3) (oi:=⟨some 17,.load 26 (.tmp 6),26, "level.go:34",#[⟨2,.guard⟩],some (2,false)⟩) (v:=?_) rfl (by kernel_rfl) (by kernel_rfl) (by kernel_rfl) (fun _ _ _ h=>h) (Or.inl ⟨by rfl,?_⟩) hHeld ?_
 rotate_left
 · (intro w hSw;(try dsimp only at hSw);go_simp;try with_reducible rfl)
 simp only [Act.put,List.setIfInBounds_toArray,List.set_cons_zero,List.set_cons_succ]
 refine wpAnyH_ready (rs:=[4]) (by kernel_rfl) (by simp) ?_
 refine AllReadyH.cons (o:=⟨some 18,.call ⟨.value (.func 87),#[.tmp 17],#[26]⟩,3, "level.go:34",#[⟨3,.data⟩,⟨2,.chain⟩,⟨2,.guard⟩],some (2,false)⟩) rfl (fun K1 hK1=>?_) AllReadyH.nil
 go_simp
 first
  | (go_at_call 87;(with_reducible refine (rsign_q d.qr (by omega) (by omega)).mono ?_);rintro e w_z ⟨rfl,hh⟩
     rw [HU.out];(try replace d:=d.below hh);(try replace Z:=Z.below hh);(try replace XD:=XD.below hh);replace hb:=bend hb hh)
 refine hK1.out _ _ ⟨XD.c0,XD.c1,XD.c2⟩ (fun hHeld=>?_)
 clear hK1 K1
 refine wpAnyH_take (i:=5) (oi:=⟨some 19,.binOp BinOp.lss 3 (.tmp 18) (.const (Value.int IntKind.i64 0)) 3,4, "level.go:34",#[⟨4,.data⟩,⟨2,.guard⟩],some (2,false)⟩) (v:=?_) rfl (by kernel_rfl) (by kernel_rfl) (by kernel_rfl) (fun _ _ _ h=>h) (Or.inl ⟨by rfl,?_⟩) hHeld ?_
 rotate_left
 · (intro w hSw;(try dsimp only at hSw);go_simp;try with_reducible rfl)
 simp only [Act.put,List.setIfInBounds_toArray,List.set_cons_zero,List.set_cons_succ]
 refine wpAnyH_take (i:=6) (oi:=⟨some 20,.pick (.tmp 16) (.const (Value.bool true)) (.tmp 19),4, "level.go:34",#[⟨2,.data⟩,⟨5,.data⟩],none⟩) (v:=?_) rfl (by kernel_rfl) (by kernel_rfl) (by kernel_rfl) (fun _ _ _ h=>h) (Or.inl ⟨by rfl,?_⟩) hHeld ?_
 rotate_left
 · (intro w hSw;(try dsimp only at hSw);go_simp;try with_reducible rfl)
 simp only [Act.put,List.setIfInBounds_toArray,List.set_cons_zero,List.set_cons_succ]
 refine wpAnyH_take (i:=7) (oi:=⟨some 21,.move (.tmp 20),4, "level.go:34",#[⟨6,.data⟩,⟨4,.chain⟩],none⟩) (v:=?_) rfl (by kernel_rfl) (by kernel_rfl) (by kernel_rfl) (fun _ _ _ h=>h) (Or.inl ⟨by rfl,?_⟩) hHeld ?_
 rotate_left
 · (intro w hSw;(try dsimp only at hSw);go_simp;try with_reducible rfl)
 simp only [Act.put,List.setIfInBounds_toArray,List.set_cons_zero,List.set_cons_succ]
 refine wpAnyH_take (i:=8) (oi:=⟨some 22,.load 26 (.tmp 6),26, "level.go:34",#[⟨7,.guard⟩],some (7,false)⟩) (v:=undef) rfl (by kernel_rfl) (by kernel_rfl) (by kernel_rfl) (fun _ _ _ h=>h) (Or.inr ⟨by rfl,rfl⟩) hHeld ?_
 simp only [Act.put,List.setIfInBounds_toArray,List.set_cons_zero,List.set_cons_succ]
 refine wpAnyH_take (i:=9) (oi:=⟨some 23,.call ⟨.value (.func 23),#[.const (Value.int IntKind.i64 1),.const (Value.int IntKind.i64 1)],#[2,2]⟩,26, "level.go:34",#[⟨7,.chain⟩,⟨7,.guard⟩],some (7,false)⟩) (v:=undef) rfl (by kernel_rfl) (by kernel_rfl) (by kernel_rfl) (fun _ _ _ h=>h) (Or.inr ⟨by rfl,rfl⟩) hHeld ?_
 simp only [Act.put,List.setIfInBounds_toArray,List.set_cons_zero,List.set_cons_succ]
 refine wpAnyH_take (i:=10) (oi:=⟨some 24,.call ⟨.value (.func 45),#[.tmp 22,.tmp 23],#[26,26]⟩,3, "level.go:34",#[⟨8,.data⟩,⟨9,.data⟩,⟨9,.chain⟩,⟨7,.guard⟩],some (7,false)⟩) (v:=undef) rfl (by kernel_rfl) (by kernel_rfl) (by kernel_rfl) (fun _ _ _ h=>h) (Or.inr ⟨by rfl,rfl⟩) hHeld ?_
 simp only [Act.put,List.setIfInBounds_toArray,List.set_cons_zero,List.set_cons_succ]
 refine wpAnyH_take (i:=11) (oi:=⟨some 25,.binOp BinOp.gtr 3 (.tmp 24) (.const (Value.int IntKind.i64 0)) 3,4, "level.go:34",#[⟨10,.data⟩,⟨7,.guard⟩],some (7,false)⟩) (v:=undef) rfl (by kernel_rfl) (by kernel_rfl) (by kernel_rfl) (fun _ _ _ h=>h) (Or.inr ⟨by rfl,rfl⟩) hHeld ?_
 simp only [Act.put,List.setIfInBounds_toArray,List.set_cons_zero,List.set_cons_succ]
 refine wpAnyH_take (i:=12) (oi:=⟨some 26,.pick (.tmp 21) (.const (Value.bool true)) (.tmp 25),4, "level.go:34",#[⟨7,.data⟩,⟨11,.data⟩],none⟩) (v:=?_) rfl (by kernel_rfl) (by kernel_rfl) (by kernel_rfl) (fun _ _ _ h=>h) (Or.inl ⟨by rfl,?_⟩) hHeld ?_
 rotate_left
 · (intro w hSw;(try dsimp only at hSw);go_simp;try with_reducible rfl)
 simp only [Act.put,List.setIfInBounds_toArray,List.set_cons_zero,List.set_cons_succ]
 refine wpAnyH_done (by kernel_rfl) ?_ _
 clear hHeld;obtain ⟨xd0,xd1,xd2⟩:=XD.all;have zf0:=Z.f0;have zf1:=Z.f1;have zf2:=Z.f2;obtain ⟨z0,z1,z2⟩:=Z.all
 go_wp2_with fail
 have Z2:=Z.set3 (.bool false) (.slice none 0 0) (.slice none 0 0)
 obtain ⟨g0,g1,g2⟩:=Z2.all
 refine bodyPost_ret (v:=.tuple #[.agg #[.bool false,.slice none 0 0,.slice none 0 0],.bool false]) (by simp [results,Tryz.results89,go_sem,g0,g1,g2]) rfl ?_
 exact ⟨rfl,below_set3 hb (by omega) _ _ _⟩
theorem share_gt {k1 k2:Nat} {xp xw:Rat} (p:QR w s_p A_p n_p c_p B_p m_p d_p xp k1) (q:QR w s_q A_q n_q c_q B_q m_q d_q xw k2) (h1:k1≤180) (h2:k2≤180) (g1:1≤k1) (g2:1≤k2) (hz:xw ≠ 0) (hl:0≤xp / xw) (hg:¬ xp / xw≤1) :
 Calls Tryz.prog 89 #[.agg #[.bool s_p,.slice A_p n_p c_p,.slice B_p m_p d_p],.agg #[.bool s_q,.slice A_q n_q c_q,.slice B_q m_q d_q]] w (GivesNo w):=by
 have HZ:=Lib.hid hz
 obtain ⟨U,hU,hU0⟩:∃ U,sgnQ (xp / xw)=U∧decide (U < 0)=false:=⟨_,rfl,decide_eq_false (Int.not_lt.2 (sgn_nonneg1.2 hl))⟩
 have HU:=Lib.hid hU;clear hU hl
 obtain ⟨T,hT,hT0⟩:∃ T,cmpQ (xp / xw) (Rat.divInt 1 1)=T∧decide (0 < T)=true:=⟨_,rfl,decide_eq_true (Int.not_le.1 (fun e=>hg (cmpQ_le.1 e)))⟩
 have HT:=Lib.hid hT;clear hT hg;clear hz
 go_enter Tryz.func89,Tryz.ntmps89
 go_wp2_with fail
 generalize hW:World.alloc _ _=W
 obtain ⟨hb,XA,XB,Z,hzW⟩:=mkbx16_9 hW;clear hW;replace p:=p.below hb;replace q:=q.below hb;obtain ⟨xa0,xa1,xa2⟩:=XA.all;obtain ⟨xb0,xb1,xb2⟩:=XB.all
 go_upto_region 2 with (first
  | (go_at_call 47;(with_reducible refine (rdiv_q p q (by omega) (by omega) (.inl (by omega)) g1 g2 HZ.out).mono ?_);rintro e w_d ⟨s_d,A_d,n_d,c_d,B_d,m_d,d_d,rfl,d,hh⟩
     (try replace Z:=Z.below hh);replace hb:=bend hb hh))
 generalize hW:World.alloc _ _=W2
 obtain ⟨hh,XD,hzW2⟩:=mkbx12_8 hW;clear hW;(try replace d:=d.below hh);(try replace Z:=Z.below hh);replace hb:=bend hb hh
 replace d:=d.below (Below.refl _ _).drew
 replace Z:=Z.below (Below.refl _ _).drew
 replace XD:=XD.below (Below.refl _ _).drew
 replace hb:=hb.drew
 go_region_held3 (fun w'=>w'.cell? ⟨w_d.heap.size,0,none⟩=some (.bool s_d)∧w'.cell? ⟨w_d.heap.size,1,none⟩=some (.slice A_d n_d c_d)∧w'.cell? ⟨w_d.heap.size,2,none⟩=some (.slice B_d m_d d_d))
  (first | with_reducible exact ⟨XD.c0,XD.c1,XD.c2⟩)
  (first
  | (go_at_call 87;(with_reducible refine (rsign_q d.qr (by omega) (by omega)).mono ?_);rintro e w_z ⟨rfl,hh⟩
     rw [HU.out];(try replace d:=d.below hh);(try replace Z:=Z.below hh);(try replace XD:=XD.below hh);replace hb:=bend hb hh)
  | (go_at_call 23;(with_reducible refine (rof_q 1 1 (by decide) (by decide) (by decide) (by decide) (by decide) _).mono ?_);rintro e w_o ⟨s_o,A_o,n_o,c_o,B_o,m_o,d_o,rfl,o,hh⟩
     (try replace d:=d.below hh);(try replace Z:=Z.below hh);(try replace XD:=XD.below hh);replace hb:=bend hb hh)
  | (go_at_call 45;(with_reducible refine (rcmp_q d.qr o.qr (by omega) (by omega) (.inl (by omega)) (by omega) (by omega)).mono ?_);rintro e w_z ⟨rfl,hh⟩
     rw [HT.out];(try replace d:=d.below hh);(try replace Z:=Z.below hh);(try replace XD:=XD.below hh);replace hb:=bend hb hh;clear o))
 obtain ⟨xd0,xd1,xd2⟩:=XD.all;have zf0:=Z.f0;have zf1:=Z.f1;have zf2:=Z.f2;obtain ⟨z0,z1,z2⟩:=Z.all
 go_wp2_with fail
 have Z2:=Z.set3 (.bool false) (.slice none 0 0) (.slice none 0 0)
 obtain ⟨g0,g1,g2⟩:=Z2.all
 refine bodyPost_ret (v:=.tuple #[.agg #[.bool false,.slice none 0 0,.slice none 0 0],.bool false]) (by simp [results,Tryz.results89,go_sem,g0,g1,g2]) rfl ?_
 exact ⟨rfl,below_set3 hb (by omega) _ _ _⟩
theorem share_no {k1 k2:Nat} {xp xw:Rat} (p:QR w s_p A_p n_p c_p B_p m_p d_p xp k1) (q:QR w s_q A_q n_q c_q B_q m_q d_q xw k2) (h1:k1≤180) (h2:k2≤180) (g1:1≤k1) (g2:1≤k2) (h:¬ shareOK xp xw):Calls Tryz.prog 89 #[.agg #[.bool s_p,.slice A_p n_p c_p,.slice B_p m_p d_p],.agg #[.bool s_q,.slice A_q n_q c_q,.slice B_q m_q d_q]] w (GivesNo w):=by
 by_cases hz:xw=0
 · exact share_z p q h1 h2 g1 g2 hz
 · by_cases hl:0≤xp / xw
   · exact share_gt p q h1 h2 g1 g2 hz hl (fun e=>h ⟨hz,hl,e⟩)
   · exact share_lt p q h1 h2 g1 g2 hz hl
abbrev L_alongyes:List Nat:=[15,16,17,18,19,20,21,14,22,23,12,13]
def o0_alongyes:Oper:=⟨some 15,.load 26 (.tmp 5),26, "level.go:23",#[],none⟩
def o1_alongyes:Oper:=⟨some 16,.load 26 (.tmp 6),26, "level.go:23",#[],none⟩
def o2_alongyes:Oper:=⟨some 17,.call ⟨.value (.func 19),#[.tmp 15,.tmp 16],#[26,26]⟩,26, "level.go:23",#[⟨0,.data⟩,⟨1,.data⟩],none⟩
def o3_alongyes:Oper:=⟨some 18,.load 26 (.tmp 7),26, "level.go:23",#[],none⟩
def o4_alongyes:Oper:=⟨some 19,.load 26 (.tmp 6),26, "level.go:23",#[],none⟩
def o5_alongyes:Oper:=⟨some 20,.call ⟨.value (.func 19),#[.tmp 18,.tmp 19],#[26,26]⟩,26, "level.go:23",#[⟨3,.data⟩,⟨4,.data⟩,⟨2,.chain⟩],none⟩
def o6_alongyes:Oper:=⟨some 21,.call ⟨.value (.func 89),#[.tmp 17,.tmp 20],#[26,26]⟩,73, "level.go:23",#[⟨2,.data⟩,⟨5,.data⟩,⟨5,.chain⟩],none⟩
def o7_alongyes:Oper:=⟨some 14,.move (.tmp 21),73, "level.go:23",#[⟨6,.data⟩],none⟩
def o8_alongyes:Oper:=⟨some 22,.extract (.tmp 14) 0,26, "level.go:23",#[⟨7,.data⟩],none⟩
def o9_alongyes:Oper:=⟨some 23,.extract (.tmp 14) 1,4, "level.go:23",#[⟨7,.data⟩,⟨11,.gcOnly .lateStores⟩],none⟩
def o10_alongyes:Oper:=⟨some 12,.alloc 26,0, "level.go:23",#[],none⟩
def o11_alongyes:Oper:=⟨none,.store 26 (.tmp 12) (.tmp 22),0, "level.go:23",#[⟨10,.data⟩,⟨8,.data⟩,⟨6,.chain⟩,⟨0,.phase⟩,⟨1,.phase⟩,⟨2,.phase⟩,⟨3,.phase⟩,⟨4,.phase⟩,⟨5,.phase⟩,⟨6,.phase⟩,⟨7,.phase⟩,⟨8,.phase⟩,⟨9,.textOnly .lateStores⟩,⟨10,.phase⟩],none⟩
def o12_alongyes:Oper:=⟨some 13,.assign (.tmp 23),4, "level.go:23",#[⟨9,.data⟩,⟨11,.chain⟩,⟨0,.phase⟩,⟨1,.phase⟩,⟨2,.phase⟩,⟨3,.phase⟩,⟨4,.phase⟩,⟨5,.phase⟩,⟨6,.phase⟩,⟨7,.phase⟩,⟨8,.phase⟩,⟨9,.phase⟩,⟨10,.phase⟩,⟨11,.phase⟩],none⟩
theorem rc_gesso_rat_Sub {e:Operand→Value} {x0 x1:Operand} {d:Option Tmp} {y:Nat} {pos:String} {af:Array Edge} {u0 u1:Value} (h0:e x0=u0) (h1:e x1=u1) (hf:e (.func 19)=.func (.func 19) #[] #[]) :
 (execOp e ⟨d,.call ⟨.value (.func 19),#[x0,x1],#[26,26]⟩,y,pos,af,none⟩).run Tryz.prog w=.ok (.enter 19 #[u0,u1]) w:=by
 go_simp
theorem rc_gesso_seg_share {e:Operand→Value} {x0 x1:Operand} {d:Option Tmp} {y:Nat} {pos:String} {af:Array Edge} {u0 u1:Value} (h0:e x0=u0) (h1:e x1=u1) (hf:e (.func 89)=.func (.func 89) #[] #[]) :
 (execOp e ⟨d,.call ⟨.value (.func 89),#[x0,x1],#[26,26]⟩,y,pos,af,none⟩).run Tryz.prog w=.ok (.enter 89 #[u0,u1]) w:=by
 go_simp
def F_alongyes (s_v:Bool) (A_v:Option Addr) (B_v:Option Addr) (n_v:Nat) (c_v:Nat) (m_v:Nat) (d_v:Nat) (s_a:Bool) (A_a:Option Addr) (B_a:Option Addr) (n_a:Nat) (c_a:Nat) (m_a:Nat) (d_a:Nat) (s_b:Bool) (A_b:Option Addr) (B_b:Option Addr) (n_b:Nat) (c_b:Nat) (m_b:Nat) (d_b:Nat) (xv:Rat) (xa:Rat) (xb:Rat) (k:Nat) (sl:Nat):Value→World→Prop :=
 match sl with
 | 15=>fun x _=>x=Value.agg #[.bool s_v,.slice A_v n_v c_v,.slice B_v m_v d_v]
 | 16=>fun x _=>x=Value.agg #[.bool s_a,.slice A_a n_a c_a,.slice B_a m_a d_a]
 | 17=>VQ (xv - xa) (k+k+1)
 | 18=>fun x _=>x=Value.agg #[.bool s_b,.slice A_b n_b c_b,.slice B_b m_b d_b]
 | 19=>fun x _=>x=Value.agg #[.bool s_a,.slice A_a n_a c_a,.slice B_a m_a d_a]
 | 20=>VQ (xb - xa) (k+k+1)
 | 21=>VQT ((xv - xa) / (xb - xa)) (k+k+1+(k+k+1))
 | 14=>VQT ((xv - xa) / (xb - xa)) (k+k+1+(k+k+1))
 | 22=>VQ ((xv - xa) / (xb - xa)) (k+k+1+(k+k+1))
 | 23=>fun x _=>x=Value.bool true
 | 13=>fun x _=>x=Value.bool true
 | _=>fun _ _=>True
def B0_alongyes (xv:Rat) (xa:Rat) (xb:Rat) (k:Nat):BoxOp :=
 ⟨10,11,12,26,#[.bool false,.slice none 0 0,.slice none 0 0],fun cs w=>∃ s A n c B m d,cs=#[.bool s,.slice A n c,.slice B m d]∧QG w s A n c B m d ((xv - xa) / (xb - xa)) (k+k+1+(k+k+1))⟩
theorem alongyes_region {id:Nat} {ac:Act} {Q:Exit→Act→World→Prop} {xv xa xb:Rat} {k gv ga gb:Nat}
 (hsz:23 < ac.tmps.size) (e5:ac.eval (.tmp 5)=Value.pointer (some ⟨gv,0,none⟩)) (e6:ac.eval (.tmp 6)=Value.pointer (some ⟨ga,0,none⟩)) (e7:ac.eval (.tmp 7)=Value.pointer (some ⟨gb,0,none⟩)) (XA:B3 w gv (.bool s_v) (.slice A_v n_v c_v) (.slice B_v m_v d_v)) (XB:B3 w ga (.bool s_a) (.slice A_a n_a c_a) (.slice B_a m_a d_a)) (XC:B3 w gb (.bool s_b) (.slice A_b n_b c_b) (.slice B_b m_b d_b)) (v:QR w s_v A_v n_v c_v B_v m_v d_v xv k) (a:QR w s_a A_a n_a c_a B_a m_a d_a xa k) (b:QR w s_b A_b n_b c_b B_b m_b d_b xb k) (hk:k≤40) (h1:1≤k) (hs:shareOK (xv - xa) (xb - xa))
 (hend:∀ (V:Nat→Value) (w':World) (g0:Nat) (s0:Bool) (A0:Option Addr) (n0:Nat) (c0:Nat) (B0:Option Addr) (m0:Nat) (d0:Nat),QG w' s0 A0 n0 c0 B0 m0 d0 ((xv - xa) / (xb - xa)) (k+k+1+(k+k+1))→B3 w' g0 (.bool s0) (.slice A0 n0 c0) (.slice B0 m0 d0)→w.heap.size≤g0→V 12=.pointer (some ⟨g0,0,none⟩)→V 13=Value.bool true→Below w.heap.size w w'→Q .normal (putAll ac [15,16,17,18,19,20,21,14,22,23,12,13] V) w') :
 (Code.region id #[o0_alongyes,o1_alongyes,o2_alongyes,o3_alongyes,o4_alongyes,o5_alongyes,o6_alongyes,o7_alongyes,o8_alongyes,o9_alongyes,o10_alongyes,o11_alongyes,o12_alongyes] true).wp Tryz.prog Q ac w:=by
 have hnd:L_alongyes.Nodup:=by decide
 have G:∀ (sv:Nat→Value) (t:Nat),t ∈ L_alongyes→t≤23→(putAll ac L_alongyes sv).eval (.tmp t)=sv t:=fun sv t ht h=>eval_putAll_mem (t:=t) L_alongyes ac hnd ht (Nat.lt_of_le_of_lt h hsz)
 have E5:∀ sv:Nat→Value,(putAll ac L_alongyes sv).eval (.tmp 5)=Value.pointer (some ⟨gv,0,none⟩):=fun sv=>(eval_putAll_not (v:=sv) L_alongyes ac (show 5 ∉ _ by decide)).trans e5
 have E6:∀ sv:Nat→Value,(putAll ac L_alongyes sv).eval (.tmp 6)=Value.pointer (some ⟨ga,0,none⟩):=fun sv=>(eval_putAll_not (v:=sv) L_alongyes ac (show 6 ∉ _ by decide)).trans e6
 have E7:∀ sv:Nat→Value,(putAll ac L_alongyes sv).eval (.tmp 7)=Value.pointer (some ⟨gb,0,none⟩):=fun sv=>(eval_putAll_not (v:=sv) L_alongyes ac (show 7 ∉ _ by decide)).trans e7
 have NE:∀ t:Nat,(t ≠ 12)→∀ p ∈ [B0_alongyes xv xa xb k],t ≠ p.tA:=by
  intro t ht p hp
  simp only [List.mem_cons,List.not_mem_nil,or_false] at hp
  rcases hp with rfl
  · exact ht
 refine wp_region_flows L_alongyes [B0_alongyes xv xa xb k] (F_alongyes s_v A_v B_v n_v c_v m_v d_v s_a A_a B_a n_a c_a m_a d_a s_b A_b B_b n_b c_b m_b d_b xv xa xb k) (by kernel_rfl) (by kernel_rfl) rfl hnd ?_ ?_ ?_ ?_ ?_ ?_ ?_ ?_
 · intro p hp
   simp only [List.mem_cons,List.not_mem_nil,or_false] at hp
   rcases hp with rfl
   · refine ⟨⟨o10_alongyes,rfl,rfl,rfl,fun e w'=>run_allocQ⟩,⟨o11_alongyes,rfl,rfl,rfl,⟨10,.data⟩,by simp [o11_alongyes],rfl,rfl⟩,free3 _ _ _ _ _ _ _,?_,?_⟩
     · rintro cs w1 w2 ⟨s_,A_,n_,c_,B_,m_,d_,rfl,h⟩ hb;exact ⟨s_,A_,n_,c_,B_,m_,d_,rfl,h.below hb⟩
     · rintro T cs w1 w2 g c0 ⟨s_,A_,n_,c_,B_,m_,d_,rfl,h⟩ hB ho;exact ⟨s_,A_,n_,c_,B_,m_,d_,rfl,h.box hB ho⟩
 · intro p hp q hq h
   simp only [List.mem_cons,List.not_mem_nil,or_false] at hp hq
   rcases hp with rfl <;> rcases hq with rfl
   · rfl
 · intro p hp q hq h
   simp only [List.mem_cons,List.not_mem_nil,or_false] at hp hq
   rcases hp with rfl <;> rcases hq with rfl
   · rfl
 · intro i o h1 h2
   match i,h1 with
   | 0,h1=>cases h1;cases h2
   | 1,h1=>cases h1;cases h2
   | 2,h1=>cases h1;cases h2
   | 3,h1=>cases h1;cases h2
   | 4,h1=>cases h1;cases h2
   | 5,h1=>cases h1;cases h2
   | 6,h1=>cases h1;cases h2
   | 7,h1=>cases h1;cases h2
   | 8,h1=>cases h1;cases h2
   | 9,h1=>cases h1;cases h2
   | 10,h1=>cases h1;cases h2
   | 11,h1=>exact ⟨B0_alongyes xv xa xb k,List.Mem.head _,rfl⟩
   | 12,h1=>cases h1;cases h2
   | i+13,h1=>cases h1
 · intro t
   unfold F_alongyes
   split <;> first | exact stays_eq _ | exact stays_q _ _ | exact stays_z _ _ | exact stays_r _ _ | exact stays_rq _ _ | exact stays_pg _ _ _ | exact stays_qt _ _ | exact stays_true
 · intro i o t sv w' ho hia hd J0 hf
   have v:=v.below J0;have a:=a.below J0;have b:=b.below J0;have XA:=XA.below J0;have XB:=XB.below J0;have XC:=XC.below J0
   match i,ho with
   | 0,ho =>
     obtain rfl:o0_alongyes=o:=Option.some.inj ho
     cases hd
     refine wpOp_plain' (o:=o0_alongyes) rfl rfl ?_
     unfold Oper.wp o0_alongyes
     rw [run_loadQ (E5 sv) XA.c0 XA.c1 XA.c2,Oper.upon_value]
     exact ⟨_,rfl,Below.refl _ _,rfl⟩
   | 1,ho =>
     obtain rfl:o1_alongyes=o:=Option.some.inj ho
     cases hd
     refine wpOp_plain' (o:=o1_alongyes) rfl rfl ?_
     unfold Oper.wp o1_alongyes
     rw [run_loadQ (E6 sv) XB.c0 XB.c1 XB.c2,Oper.upon_value]
     exact ⟨_,rfl,Below.refl _ _,rfl⟩
   | 2,ho =>
     obtain rfl:o2_alongyes=o:=Option.some.inj ho
     cases hd
     have f15:sv 15=Value.agg #[.bool s_v,.slice A_v n_v c_v,.slice B_v m_v d_v]:=hf ⟨0,.data⟩ (by simp [o2_alongyes]) rfl _ 15 rfl rfl (NE _ (by decide))
     have f16:sv 16=Value.agg #[.bool s_a,.slice A_a n_a c_a,.slice B_a m_a d_a]:=hf ⟨1,.data⟩ (by simp [o2_alongyes]) rfl _ 16 rfl rfl (NE _ (by decide))
     refine wpOp_plain' (o:=o2_alongyes) rfl rfl ?_
     unfold Oper.wp o2_alongyes
     rw [rc_gesso_rat_Sub ((G sv 15 (by decide) (by decide)).trans f15) ((G sv 16 (by decide) (by decide)).trans f16) rfl,Oper.upon_enter]
     refine (rsub_q v a (by omega) (by omega) (.inl (by omega)) h1 h1).mono ?_
     rintro e w1 ⟨s_,A_,n_,c_,B_,m_,d_,rfl,hq,hh⟩
     exact ⟨_,rfl,hh,s_,A_,n_,c_,B_,m_,d_,rfl,hq⟩
   | 3,ho =>
     obtain rfl:o3_alongyes=o:=Option.some.inj ho
     cases hd
     refine wpOp_plain' (o:=o3_alongyes) rfl rfl ?_
     unfold Oper.wp o3_alongyes
     rw [run_loadQ (E7 sv) XC.c0 XC.c1 XC.c2,Oper.upon_value]
     exact ⟨_,rfl,Below.refl _ _,rfl⟩
   | 4,ho =>
     obtain rfl:o4_alongyes=o:=Option.some.inj ho
     cases hd
     refine wpOp_plain' (o:=o4_alongyes) rfl rfl ?_
     unfold Oper.wp o4_alongyes
     rw [run_loadQ (E6 sv) XB.c0 XB.c1 XB.c2,Oper.upon_value]
     exact ⟨_,rfl,Below.refl _ _,rfl⟩
   | 5,ho =>
     obtain rfl:o5_alongyes=o:=Option.some.inj ho
     cases hd
     have f18:sv 18=Value.agg #[.bool s_b,.slice A_b n_b c_b,.slice B_b m_b d_b]:=hf ⟨3,.data⟩ (by simp [o5_alongyes]) rfl _ 18 rfl rfl (NE _ (by decide))
     have f19:sv 19=Value.agg #[.bool s_a,.slice A_a n_a c_a,.slice B_a m_a d_a]:=hf ⟨4,.data⟩ (by simp [o5_alongyes]) rfl _ 19 rfl rfl (NE _ (by decide))
     refine wpOp_plain' (o:=o5_alongyes) rfl rfl ?_
     unfold Oper.wp o5_alongyes
     rw [rc_gesso_rat_Sub ((G sv 18 (by decide) (by decide)).trans f18) ((G sv 19 (by decide) (by decide)).trans f19) rfl,Oper.upon_enter]
     refine (rsub_q b a (by omega) (by omega) (.inl (by omega)) h1 h1).mono ?_
     rintro e w1 ⟨s_,A_,n_,c_,B_,m_,d_,rfl,hq,hh⟩
     exact ⟨_,rfl,hh,s_,A_,n_,c_,B_,m_,d_,rfl,hq⟩
   | 6,ho =>
     obtain rfl:o6_alongyes=o:=Option.some.inj ho
     cases hd
     have h17:VQ (xv - xa) (k+k+1) (sv 17) w':=hf ⟨2,.data⟩ (by simp [o6_alongyes]) rfl _ 17 rfl rfl (NE _ (by decide))
     obtain ⟨s17_,A17_,n17_,c17_,B17_,m17_,d17_,f17,q17⟩:=h17
     have h20:VQ (xb - xa) (k+k+1) (sv 20) w':=hf ⟨5,.data⟩ (by simp [o6_alongyes]) rfl _ 20 rfl rfl (NE _ (by decide))
     obtain ⟨s20_,A20_,n20_,c20_,B20_,m20_,d20_,f20,q20⟩:=h20
     refine wpOp_plain' (o:=o6_alongyes) rfl rfl ?_
     unfold Oper.wp o6_alongyes
     rw [rc_gesso_seg_share ((G sv 17 (by decide) (by decide)).trans f17) ((G sv 20 (by decide) (by decide)).trans f20) rfl,Oper.upon_enter]
     refine (share_yes q17.qr q20.qr (by omega) (by omega) (by omega) (by omega) hs).mono ?_
     rintro e w1 ⟨s_,A_,n_,c_,B_,m_,d_,rfl,hq,hh⟩
     exact ⟨_,rfl,hh,s_,A_,n_,c_,B_,m_,d_,rfl,hq⟩
   | 7,ho =>
     obtain rfl:o7_alongyes=o:=Option.some.inj ho
     cases hd
     have f:=hf ⟨6,.data⟩ (by simp [o7_alongyes]) rfl _ 21 rfl rfl (NE _ (by decide))
     refine wpOp_plain' (o:=o7_alongyes) rfl rfl ?_
     unfold Oper.wp o7_alongyes
     rw [run_move (G sv 21 (by decide) (by decide)),Oper.upon_value]
     exact ⟨_,rfl,Below.refl _ _,f⟩
   | 8,ho =>
     obtain rfl:o8_alongyes=o:=Option.some.inj ho
     cases hd
     have h14:VQT ((xv - xa) / (xb - xa)) (k+k+1+(k+k+1)) (sv 14) w':=hf ⟨7,.data⟩ (by simp [o8_alongyes]) rfl _ 14 rfl rfl (NE _ (by decide))
     obtain ⟨s14_,A14_,n14_,c14_,B14_,m14_,d14_,f14,q14⟩:=h14
     refine wpOp_plain' (o:=o8_alongyes) rfl rfl ?_
     unfold Oper.wp o8_alongyes
     rw [run_ext0 ((G sv 14 (by decide) (by decide)).trans f14),Oper.upon_value]
     exact ⟨_,rfl,Below.refl _ _,s14_,A14_,n14_,c14_,B14_,m14_,d14_,rfl,q14⟩
   | 9,ho =>
     obtain rfl:o9_alongyes=o:=Option.some.inj ho
     cases hd
     have h14:VQT ((xv - xa) / (xb - xa)) (k+k+1+(k+k+1)) (sv 14) w':=hf ⟨7,.data⟩ (by simp [o9_alongyes]) rfl _ 14 rfl rfl (NE _ (by decide))
     obtain ⟨s14_,A14_,n14_,c14_,B14_,m14_,d14_,f14,q14⟩:=h14
     refine wpOp_plain' (o:=o9_alongyes) rfl rfl ?_
     unfold Oper.wp o9_alongyes
     rw [run_ext1 ((G sv 14 (by decide) (by decide)).trans f14),Oper.upon_value]
     exact ⟨_,rfl,Below.refl _ _,rfl⟩
   | 10,ho=>cases ho;cases hd;exact absurd rfl (hia (B0_alongyes xv xa xb k) (List.Mem.head _))
   | 11,ho=>cases ho;cases hd
   | 12,ho =>
     obtain rfl:o12_alongyes=o:=Option.some.inj ho
     cases hd
     have f:=hf ⟨9,.data⟩ (by simp [o12_alongyes]) rfl _ 23 rfl rfl (NE _ (by decide))
     refine wpOp_plain' (o:=o12_alongyes) rfl rfl ?_
     unfold Oper.wp o12_alongyes
     rw [run_assign (G sv 23 (by decide) (by decide)),Oper.upon_value]
     exact ⟨_,rfl,Below.refl _ _,f⟩
   | i+13,ho=>cases ho
 · intro p hp os sv w' g hos J0 p1 p3 hf
   simp only [List.mem_cons,List.not_mem_nil,or_false] at hp
   rcases hp with rfl
   · obtain rfl:o11_alongyes=os:=Option.some.inj hos
     have h1:VQ ((xv - xa) / (xb - xa)) (k+k+1+(k+k+1)) (sv 22) w':=hf ⟨8,.data⟩ (by simp [o11_alongyes]) rfl _ 22 rfl rfl (NE _ (by decide))
     rw [← G sv 22 (by decide) (by decide)] at h1
     refine store_q (V:=(xv - xa) / (xb - xa)) (k:=k+k+1+(k+k+1)) (ac:=putAll ac L_alongyes sv) (z:=.tmp 22) ?_ ?_ ?_
     · exact (G sv 12 (by decide) (by decide)).trans p1
     · exact h1
     · exact p3
 · intro sv w' J0 hF hB hap
   obtain ⟨g0,cs0,p0,r0,b0,⟨s0,A0,n0,c0,B0,m0,d0,rfl,h0⟩⟩:=hB (B0_alongyes xv xa xb k) (List.Mem.head _)
   have p0':sv 12=.pointer (some ⟨g0,0,none⟩):=p0
   exact hend sv w' g0 _ _ _ _ _ _ _ h0 b0.at_ r0 p0' (hF 12 _ 13 rfl rfl (NE _ (by decide))) J0
def F_alongno (s_v:Bool) (A_v:Option Addr) (B_v:Option Addr) (n_v:Nat) (c_v:Nat) (m_v:Nat) (d_v:Nat) (s_a:Bool) (A_a:Option Addr) (B_a:Option Addr) (n_a:Nat) (c_a:Nat) (m_a:Nat) (d_a:Nat) (s_b:Bool) (A_b:Option Addr) (B_b:Option Addr) (n_b:Nat) (c_b:Nat) (m_b:Nat) (d_b:Nat) (xv:Rat) (xa:Rat) (xb:Rat) (k:Nat) (sl:Nat):Value→World→Prop :=
 match sl with
 | 15=>fun x _=>x=Value.agg #[.bool s_v,.slice A_v n_v c_v,.slice B_v m_v d_v]
 | 16=>fun x _=>x=Value.agg #[.bool s_a,.slice A_a n_a c_a,.slice B_a m_a d_a]
 | 17=>VQ (xv - xa) (k+k+1)
 | 18=>fun x _=>x=Value.agg #[.bool s_b,.slice A_b n_b c_b,.slice B_b m_b d_b]
 | 19=>fun x _=>x=Value.agg #[.bool s_a,.slice A_a n_a c_a,.slice B_a m_a d_a]
 | 20=>VQ (xb - xa) (k+k+1)
 | 21=>fun x _=>x=Value.tuple #[.agg #[.bool false,.slice none 0 0,.slice none 0 0],.bool false]
 | 14=>fun x _=>x=Value.tuple #[.agg #[.bool false,.slice none 0 0,.slice none 0 0],.bool false]
 | 22=>VK (#[.bool false,.slice none 0 0,.slice none 0 0])
 | 23=>fun x _=>x=Value.bool false
 | 13=>fun x _=>x=Value.bool false
 | _=>fun _ _=>True
def B0_alongno :BoxOp :=
 ⟨10,11,12,26,#[.bool false,.slice none 0 0,.slice none 0 0],fun cs _=>cs=#[.bool false,.slice none 0 0,.slice none 0 0]⟩
theorem alongno_region {id:Nat} {ac:Act} {Q:Exit→Act→World→Prop} {xv xa xb:Rat} {k gv ga gb:Nat}
 (hsz:23 < ac.tmps.size) (e5:ac.eval (.tmp 5)=Value.pointer (some ⟨gv,0,none⟩)) (e6:ac.eval (.tmp 6)=Value.pointer (some ⟨ga,0,none⟩)) (e7:ac.eval (.tmp 7)=Value.pointer (some ⟨gb,0,none⟩)) (XA:B3 w gv (.bool s_v) (.slice A_v n_v c_v) (.slice B_v m_v d_v)) (XB:B3 w ga (.bool s_a) (.slice A_a n_a c_a) (.slice B_a m_a d_a)) (XC:B3 w gb (.bool s_b) (.slice A_b n_b c_b) (.slice B_b m_b d_b)) (v:QR w s_v A_v n_v c_v B_v m_v d_v xv k) (a:QR w s_a A_a n_a c_a B_a m_a d_a xa k) (b:QR w s_b A_b n_b c_b B_b m_b d_b xb k) (hk:k≤40) (h1:1≤k) (hs:¬ shareOK (xv - xa) (xb - xa))
 (hend:∀ (V:Nat→Value) (w':World) (g0:Nat),B3 w' g0 (.bool false) (.slice none 0 0) (.slice none 0 0)→w.heap.size≤g0→V 12=.pointer (some ⟨g0,0,none⟩)→V 13=Value.bool false→Below w.heap.size w w'→Q .normal (putAll ac [15,16,17,18,19,20,21,14,22,23,12,13] V) w') :
 (Code.region id #[o0_alongyes,o1_alongyes,o2_alongyes,o3_alongyes,o4_alongyes,o5_alongyes,o6_alongyes,o7_alongyes,o8_alongyes,o9_alongyes,o10_alongyes,o11_alongyes,o12_alongyes] true).wp Tryz.prog Q ac w:=by
 have hnd:L_alongyes.Nodup:=by decide
 have G:∀ (sv:Nat→Value) (t:Nat),t ∈ L_alongyes→t≤23→(putAll ac L_alongyes sv).eval (.tmp t)=sv t:=fun sv t ht h=>eval_putAll_mem (t:=t) L_alongyes ac hnd ht (Nat.lt_of_le_of_lt h hsz)
 have E5:∀ sv:Nat→Value,(putAll ac L_alongyes sv).eval (.tmp 5)=Value.pointer (some ⟨gv,0,none⟩):=fun sv=>(eval_putAll_not (v:=sv) L_alongyes ac (show 5 ∉ _ by decide)).trans e5
 have E6:∀ sv:Nat→Value,(putAll ac L_alongyes sv).eval (.tmp 6)=Value.pointer (some ⟨ga,0,none⟩):=fun sv=>(eval_putAll_not (v:=sv) L_alongyes ac (show 6 ∉ _ by decide)).trans e6
 have E7:∀ sv:Nat→Value,(putAll ac L_alongyes sv).eval (.tmp 7)=Value.pointer (some ⟨gb,0,none⟩):=fun sv=>(eval_putAll_not (v:=sv) L_alongyes ac (show 7 ∉ _ by decide)).trans e7
 have NE:∀ t:Nat,(t ≠ 12)→∀ p ∈ [B0_alongno],t ≠ p.tA:=by
  intro t ht p hp
  simp only [List.mem_cons,List.not_mem_nil,or_false] at hp
  rcases hp with rfl
  · exact ht
 refine wp_region_flows L_alongyes [B0_alongno] (F_alongno s_v A_v B_v n_v c_v m_v d_v s_a A_a B_a n_a c_a m_a d_a s_b A_b B_b n_b c_b m_b d_b xv xa xb k) (by kernel_rfl) (by kernel_rfl) rfl hnd ?_ ?_ ?_ ?_ ?_ ?_ ?_ ?_
 · intro p hp
   simp only [List.mem_cons,List.not_mem_nil,or_false] at hp
   rcases hp with rfl
   · refine ⟨⟨o10_alongyes,rfl,rfl,rfl,fun e w'=>run_allocQ⟩,⟨o11_alongyes,rfl,rfl,rfl,⟨10,.data⟩,by simp [o11_alongyes],rfl,rfl⟩,free3 _ _ _ _ _ _ _,?_,?_⟩
     · rintro cs w1 w2 rfl hb;rfl
     · rintro T cs w1 w2 g c0 rfl hB ho;rfl
 · intro p hp q hq h
   simp only [List.mem_cons,List.not_mem_nil,or_false] at hp hq
   rcases hp with rfl <;> rcases hq with rfl
   · rfl
 · intro p hp q hq h
   simp only [List.mem_cons,List.not_mem_nil,or_false] at hp hq
   rcases hp with rfl <;> rcases hq with rfl
   · rfl
 · intro i o h1 h2
   match i,h1 with
   | 0,h1=>cases h1;cases h2
   | 1,h1=>cases h1;cases h2
   | 2,h1=>cases h1;cases h2
   | 3,h1=>cases h1;cases h2
   | 4,h1=>cases h1;cases h2
   | 5,h1=>cases h1;cases h2
   | 6,h1=>cases h1;cases h2
   | 7,h1=>cases h1;cases h2
   | 8,h1=>cases h1;cases h2
   | 9,h1=>cases h1;cases h2
   | 10,h1=>cases h1;cases h2
   | 11,h1=>exact ⟨B0_alongno,List.Mem.head _,rfl⟩
   | 12,h1=>cases h1;cases h2
   | i+13,h1=>cases h1
 · intro t
   unfold F_alongno
   split <;> first | exact stays_eq _ | exact stays_q _ _ | exact stays_z _ _ | exact stays_r _ _ | exact stays_rq _ _ | exact stays_pg _ _ _ | exact stays_k _ | exact stays_true
 · intro i o t sv w' ho hia hd J0 hf
   have v:=v.below J0;have a:=a.below J0;have b:=b.below J0;have XA:=XA.below J0;have XB:=XB.below J0;have XC:=XC.below J0
   match i,ho with
   | 0,ho =>
     obtain rfl:o0_alongyes=o:=Option.some.inj ho
     cases hd
     refine wpOp_plain' (o:=o0_alongyes) rfl rfl ?_
     unfold Oper.wp o0_alongyes
     rw [run_loadQ (E5 sv) XA.c0 XA.c1 XA.c2,Oper.upon_value]
     exact ⟨_,rfl,Below.refl _ _,rfl⟩
   | 1,ho =>
     obtain rfl:o1_alongyes=o:=Option.some.inj ho
     cases hd
     refine wpOp_plain' (o:=o1_alongyes) rfl rfl ?_
     unfold Oper.wp o1_alongyes
     rw [run_loadQ (E6 sv) XB.c0 XB.c1 XB.c2,Oper.upon_value]
     exact ⟨_,rfl,Below.refl _ _,rfl⟩
   | 2,ho =>
     obtain rfl:o2_alongyes=o:=Option.some.inj ho
     cases hd
     have f15:sv 15=Value.agg #[.bool s_v,.slice A_v n_v c_v,.slice B_v m_v d_v]:=hf ⟨0,.data⟩ (by simp [o2_alongyes]) rfl _ 15 rfl rfl (NE _ (by decide))
     have f16:sv 16=Value.agg #[.bool s_a,.slice A_a n_a c_a,.slice B_a m_a d_a]:=hf ⟨1,.data⟩ (by simp [o2_alongyes]) rfl _ 16 rfl rfl (NE _ (by decide))
     refine wpOp_plain' (o:=o2_alongyes) rfl rfl ?_
     unfold Oper.wp o2_alongyes
     rw [rc_gesso_rat_Sub ((G sv 15 (by decide) (by decide)).trans f15) ((G sv 16 (by decide) (by decide)).trans f16) rfl,Oper.upon_enter]
     refine (rsub_q v a (by omega) (by omega) (.inl (by omega)) h1 h1).mono ?_
     rintro e w1 ⟨s_,A_,n_,c_,B_,m_,d_,rfl,hq,hh⟩
     exact ⟨_,rfl,hh,s_,A_,n_,c_,B_,m_,d_,rfl,hq⟩
   | 3,ho =>
     obtain rfl:o3_alongyes=o:=Option.some.inj ho
     cases hd
     refine wpOp_plain' (o:=o3_alongyes) rfl rfl ?_
     unfold Oper.wp o3_alongyes
     rw [run_loadQ (E7 sv) XC.c0 XC.c1 XC.c2,Oper.upon_value]
     exact ⟨_,rfl,Below.refl _ _,rfl⟩
   | 4,ho =>
     obtain rfl:o4_alongyes=o:=Option.some.inj ho
     cases hd
     refine wpOp_plain' (o:=o4_alongyes) rfl rfl ?_
     unfold Oper.wp o4_alongyes
     rw [run_loadQ (E6 sv) XB.c0 XB.c1 XB.c2,Oper.upon_value]
     exact ⟨_,rfl,Below.refl _ _,rfl⟩
   | 5,ho =>
     obtain rfl:o5_alongyes=o:=Option.some.inj ho
     cases hd
     have f18:sv 18=Value.agg #[.bool s_b,.slice A_b n_b c_b,.slice B_b m_b d_b]:=hf ⟨3,.data⟩ (by simp [o5_alongyes]) rfl _ 18 rfl rfl (NE _ (by decide))
     have f19:sv 19=Value.agg #[.bool s_a,.slice A_a n_a c_a,.slice B_a m_a d_a]:=hf ⟨4,.data⟩ (by simp [o5_alongyes]) rfl _ 19 rfl rfl (NE _ (by decide))
     refine wpOp_plain' (o:=o5_alongyes) rfl rfl ?_
     unfold Oper.wp o5_alongyes
     rw [rc_gesso_rat_Sub ((G sv 18 (by decide) (by decide)).trans f18) ((G sv 19 (by decide) (by decide)).trans f19) rfl,Oper.upon_enter]
     refine (rsub_q b a (by omega) (by omega) (.inl (by omega)) h1 h1).mono ?_
     rintro e w1 ⟨s_,A_,n_,c_,B_,m_,d_,rfl,hq,hh⟩
     exact ⟨_,rfl,hh,s_,A_,n_,c_,B_,m_,d_,rfl,hq⟩
   | 6,ho =>
     obtain rfl:o6_alongyes=o:=Option.some.inj ho
     cases hd
     have h17:VQ (xv - xa) (k+k+1) (sv 17) w':=hf ⟨2,.data⟩ (by simp [o6_alongyes]) rfl _ 17 rfl rfl (NE _ (by decide))
     obtain ⟨s17_,A17_,n17_,c17_,B17_,m17_,d17_,f17,q17⟩:=h17
     have h20:VQ (xb - xa) (k+k+1) (sv 20) w':=hf ⟨5,.data⟩ (by simp [o6_alongyes]) rfl _ 20 rfl rfl (NE _ (by decide))
     obtain ⟨s20_,A20_,n20_,c20_,B20_,m20_,d20_,f20,q20⟩:=h20
     refine wpOp_plain' (o:=o6_alongyes) rfl rfl ?_
     unfold Oper.wp o6_alongyes
     rw [rc_gesso_seg_share ((G sv 17 (by decide) (by decide)).trans f17) ((G sv 20 (by decide) (by decide)).trans f20) rfl,Oper.upon_enter]
     refine (share_no q17.qr q20.qr (by omega) (by omega) (by omega) (by omega) hs).mono ?_
     rintro e w1 ⟨rfl,hh⟩
     exact ⟨_,rfl,hh,rfl⟩
   | 7,ho =>
     obtain rfl:o7_alongyes=o:=Option.some.inj ho
     cases hd
     have f:=hf ⟨6,.data⟩ (by simp [o7_alongyes]) rfl _ 21 rfl rfl (NE _ (by decide))
     refine wpOp_plain' (o:=o7_alongyes) rfl rfl ?_
     unfold Oper.wp o7_alongyes
     rw [run_move (G sv 21 (by decide) (by decide)),Oper.upon_value]
     exact ⟨_,rfl,Below.refl _ _,f⟩
   | 8,ho =>
     obtain rfl:o8_alongyes=o:=Option.some.inj ho
     cases hd
     have f14:sv 14=Value.tuple #[.agg #[.bool false,.slice none 0 0,.slice none 0 0],.bool false]:=hf ⟨7,.data⟩ (by simp [o8_alongyes]) rfl _ 14 rfl rfl (NE _ (by decide))
     refine wpOp_plain' (o:=o8_alongyes) rfl rfl ?_
     unfold Oper.wp o8_alongyes
     rw [run_ext0 ((G sv 14 (by decide) (by decide)).trans f14),Oper.upon_value]
     exact ⟨_,rfl,Below.refl _ _,rfl⟩
   | 9,ho =>
     obtain rfl:o9_alongyes=o:=Option.some.inj ho
     cases hd
     have f14:sv 14=Value.tuple #[.agg #[.bool false,.slice none 0 0,.slice none 0 0],.bool false]:=hf ⟨7,.data⟩ (by simp [o9_alongyes]) rfl _ 14 rfl rfl (NE _ (by decide))
     refine wpOp_plain' (o:=o9_alongyes) rfl rfl ?_
     unfold Oper.wp o9_alongyes
     rw [run_ext1 ((G sv 14 (by decide) (by decide)).trans f14),Oper.upon_value]
     exact ⟨_,rfl,Below.refl _ _,rfl⟩
   | 10,ho=>cases ho;cases hd;exact absurd rfl (hia (B0_alongno) (List.Mem.head _))
   | 11,ho=>cases ho;cases hd
   | 12,ho =>
     obtain rfl:o12_alongyes=o:=Option.some.inj ho
     cases hd
     have f:=hf ⟨9,.data⟩ (by simp [o12_alongyes]) rfl _ 23 rfl rfl (NE _ (by decide))
     refine wpOp_plain' (o:=o12_alongyes) rfl rfl ?_
     unfold Oper.wp o12_alongyes
     rw [run_assign (G sv 23 (by decide) (by decide)),Oper.upon_value]
     exact ⟨_,rfl,Below.refl _ _,f⟩
   | i+13,ho=>cases ho
 · intro p hp os sv w' g hos J0 p1 p3 hf
   simp only [List.mem_cons,List.not_mem_nil,or_false] at hp
   rcases hp with rfl
   · obtain rfl:o11_alongyes=os:=Option.some.inj hos
     have h1:VK (#[.bool false,.slice none 0 0,.slice none 0 0]) (sv 22) w':=hf ⟨8,.data⟩ (by simp [o11_alongyes]) rfl _ 22 rfl rfl (NE _ (by decide))
     rw [← G sv 22 (by decide) (by decide)] at h1
     refine store_kq  (ac:=putAll ac L_alongyes sv) (z:=.tmp 22) ?_ ?_ ?_
     · exact (G sv 12 (by decide) (by decide)).trans p1
     · exact h1
     · exact p3
 · intro sv w' J0 hF hB hap
   obtain ⟨g0,cs0,p0,r0,b0,rfl⟩:=hB (B0_alongno) (List.Mem.head _)
   have p0':sv 12=.pointer (some ⟨g0,0,none⟩):=p0
   exact hend sv w' g0 b0.at_ r0 p0' (hF 12 _ 13 rfl rfl (NE _ (by decide))) J0
theorem mkbx42_15 {w W:World} {x0 x1 x2 x3 x4 x5 x6 x7 x8 x9 x10 x11 x12 x13 x14 x15 x16 x17:Value} (h:((((((w.alloc (Obj.cells #[x0,x1,x2] 26)).alloc (Obj.cells #[x3,x4,x5] 26)).alloc (Obj.cells #[x6,x7,x8] 26)).alloc (Obj.cells #[x9,x10,x11] 26)).alloc (Obj.cells #[x12,x13,x14] 26)).alloc (Obj.cells #[x15,x16,x17] 26))=W):Below w.heap.size w W∧B3 W (w.heap.size) x0 x1 x2∧B3 W (w.heap.size+1) x3 x4 x5∧B3 W (w.heap.size+1+1) x6 x7 x8∧B3 W (w.heap.size+1+1+1) x9 x10 x11∧B3 W (w.heap.size+1+1+1+1) x12 x13 x14∧B3 W (w.heap.size+1+1+1+1+1) x15 x16 x17∧W.heap.size=w.heap.size+6:=by subst h;exact ⟨by exact (((((((Below.refl _ _).alloc (Nat.le_refl _) _).alloc (by simp) _).alloc (by simp;omega) _).alloc (by simp;omega) _).alloc (by simp;omega) _).alloc (by simp;omega) _),by exact (((((B3.new' _ _ _ _ _ rfl).alloc _).alloc _).alloc _).alloc _).alloc _,by exact ((((B3.new' _ _ _ _ _ (by simp)).alloc _).alloc _).alloc _).alloc _,by exact (((B3.new' _ _ _ _ _ (by simp)).alloc _).alloc _).alloc _,by exact ((B3.new' _ _ _ _ _ (by simp)).alloc _).alloc _,by exact (B3.new' _ _ _ _ _ (by simp)).alloc _,by exact B3.new' _ _ _ _ _ (by simp),by simp⟩
theorem along_yes {k:Nat} {xv xa xb xf xl:Rat} (v:QR w s_v A_v n_v c_v B_v m_v d_v xv k) (a:QR w s_a A_a n_a c_a B_a m_a d_a xa k) (b:QR w s_b A_b n_b c_b B_b m_b d_b xb k) (f:QR w s_f A_f n_f c_f B_f m_f d_f xf k) (l:QR w s_l A_l n_l c_l B_l m_l d_l xl k) (hk:k≤40) (h1:1≤k) (hs:shareOK (xv - xa) (xb - xa)) :
 Calls Tryz.prog 101 #[.agg #[.bool s_v,.slice A_v n_v c_v,.slice B_v m_v d_v],.agg #[.bool s_a,.slice A_a n_a c_a,.slice B_a m_a d_a],.agg #[.bool s_b,.slice A_b n_b c_b,.slice B_b m_b d_b],.agg #[.bool s_f,.slice A_f n_f c_f,.slice B_f m_f d_f],.agg #[.bool s_l,.slice A_l n_l c_l,.slice B_l m_l d_l]] w (GivesQT w (xf+(xv - xa) / (xb - xa)*(xl - xf)) (k+(k+k+1+(k+k+1)+(k+k+1))+1)):=by
 have HS:=Lib.hid hs;clear hs
 go_enter Tryz.func101,Tryz.ntmps101
 go_upto_region 1 with (fail)
 generalize hW:World.alloc _ _=W
 obtain ⟨hb,XA,XB,XC,XD,XE,Z,hzW⟩:=mkbx42_15 hW;clear hW;replace v:=v.below hb;replace a:=a.below hb;replace b:=b.below hb;replace f:=f.below hb;replace l:=l.below hb
 refine alongyes_region (by simp) rfl rfl rfl XA XB XC v a b hk h1 HS.out ?_
 intro V w_r g_r s_r A_r n_r c_r B_r m_r d_r r XR hg_r hvr hv13 hh
 simp only [putAll,Act.put,List.setIfInBounds_toArray,List.set_cons_zero,List.set_cons_succ,hvr,hv13]
 clear hvr hv13
 have hgr:w.heap.size+6≤g_r:=by omega
 replace v:=v.below hh;replace a:=a.below hh;replace b:=b.below hh;replace f:=f.below hh;replace l:=l.below hh;replace XA:=XA.below hh;replace XB:=XB.below hh;replace XC:=XC.below hh;replace XD:=XD.below hh;replace XE:=XE.below hh;replace Z:=Z.below hh;replace hb:=bend hb hh
 go_upto_region 4 with (fail)
 replace f:=f.below (Below.refl _ _).drew
 replace l:=l.below (Below.refl _ _).drew
 replace r:=r.below (Below.refl _ _).drew
 replace XD:=XD.below (Below.refl _ _).drew
 replace XE:=XE.below (Below.refl _ _).drew
 replace XR:=XR.below (Below.refl _ _).drew
 replace Z:=Z.below (Below.refl _ _).drew
 replace hb:=hb.drew
 go_region_held3 (fun w'=>w'.cell? ⟨w.heap.size+1+1+1,0,none⟩=some (.bool s_f)∧w'.cell? ⟨w.heap.size+1+1+1,1,none⟩=some (.slice A_f n_f c_f)∧w'.cell? ⟨w.heap.size+1+1+1,2,none⟩=some (.slice B_f m_f d_f)∧w'.cell? ⟨w.heap.size+1+1+1+1,0,none⟩=some (.bool s_l)∧w'.cell? ⟨w.heap.size+1+1+1+1,1,none⟩=some (.slice A_l n_l c_l)∧w'.cell? ⟨w.heap.size+1+1+1+1,2,none⟩=some (.slice B_l m_l d_l)∧w'.cell? ⟨g_r,0,none⟩=some (.bool s_r)∧w'.cell? ⟨g_r,1,none⟩=some (.slice A_r n_r c_r)∧w'.cell? ⟨g_r,2,none⟩=some (.slice B_r m_r d_r))
  (first | with_reducible exact ⟨XD.c0,XD.c1,XD.c2,XE.c0,XE.c1,XE.c2,XR.c0,XR.c1,XR.c2⟩ | with_reducible exact ⟨(set3_cell _ _ _ _ _ _ _ (by omega)).trans (XD.c0),(set3_cell _ _ _ _ _ _ _ (by omega)).trans (XD.c1),(set3_cell _ _ _ _ _ _ _ (by omega)).trans (XD.c2),(set3_cell _ _ _ _ _ _ _ (by omega)).trans (XE.c0),(set3_cell _ _ _ _ _ _ _ (by omega)).trans (XE.c1),(set3_cell _ _ _ _ _ _ _ (by omega)).trans (XE.c2),(set3_cell _ _ _ _ _ _ _ (by omega)).trans (XR.c0),(set3_cell _ _ _ _ _ _ _ (by omega)).trans (XR.c1),(set3_cell _ _ _ _ _ _ _ (by omega)).trans (XR.c2)⟩)
  (first
  | (go_at_call 19;(with_reducible refine (rsub_q l f (by omega) (by omega) (.inl (by omega)) (by omega) (by omega)).mono ?_);rintro e w_m ⟨s_m,A_m,n_m,c_m,B_m,m_m,d_m,rfl,m,hh⟩
     (try replace f:=f.below hh);(try replace l:=l.below hh);(try replace r:=r.below hh);(try replace XD:=XD.below hh);(try replace XE:=XE.below hh);(try replace XR:=XR.below hh);(try replace Z:=Z.below hh);replace hb:=bend hb hh)
  | (go_at_call 20;(with_reducible refine (rmul_q r.qr m.qr (by omega) (by omega) (.inl (by omega)) (by omega) (by omega)).mono ?_);rintro e w_t ⟨s_t,A_t,n_t,c_t,B_t,m_t,d_t,rfl,t,hh⟩
     (try replace f:=f.below hh);(try replace l:=l.below hh);(try replace r:=r.below hh);(try replace XD:=XD.below hh);(try replace XE:=XE.below hh);(try replace XR:=XR.below hh);(try replace Z:=Z.below hh);replace hb:=bend hb hh;clear m)
  | (go_at_call 18;(with_reducible refine (radd_q f t.qr (by omega) (by omega) (.inl (by omega)) (by omega) (by omega)).mono ?_);rintro e w_u ⟨s_u,A_u,n_u,c_u,B_u,m_u,d_u,rfl,u,hh⟩
     (try replace f:=f.below hh);(try replace l:=l.below hh);(try replace r:=r.below hh);(try replace XD:=XD.below hh);(try replace XE:=XE.below hh);(try replace XR:=XR.below hh);(try replace Z:=Z.below hh);replace hb:=bend hb hh;clear t;have zf0:=Z.f0;have zf1:=Z.f1;have zf2:=Z.f2;obtain ⟨z0,z1,z2⟩:=Z.all))
 go_wp2_with fail
 have Z2:=Z.set3 (.bool s_u) (.slice A_u n_u c_u) (.slice B_u m_u d_u)
 obtain ⟨g0,g1,g2⟩:=Z2.all
 refine bodyPost_ret (v:=.tuple #[.agg #[.bool s_u,.slice A_u n_u c_u,.slice B_u m_u d_u],.bool true]) (by simp [results,Tryz.results101,go_sem,g0,g1,g2]) rfl ?_
 exact ⟨s_u,A_u,n_u,c_u,B_u,m_u,d_u,rfl,u.set3 Z _ _ _,below_set3 hb (by omega) _ _ _⟩
theorem along_no {k:Nat} {xv xa xb xf xl:Rat} (v:QR w s_v A_v n_v c_v B_v m_v d_v xv k) (a:QR w s_a A_a n_a c_a B_a m_a d_a xa k) (b:QR w s_b A_b n_b c_b B_b m_b d_b xb k) (f:QR w s_f A_f n_f c_f B_f m_f d_f xf k) (l:QR w s_l A_l n_l c_l B_l m_l d_l xl k) (hk:k≤40) (h1:1≤k) (hs:¬ shareOK (xv - xa) (xb - xa)) :
 Calls Tryz.prog 101 #[.agg #[.bool s_v,.slice A_v n_v c_v,.slice B_v m_v d_v],.agg #[.bool s_a,.slice A_a n_a c_a,.slice B_a m_a d_a],.agg #[.bool s_b,.slice A_b n_b c_b,.slice B_b m_b d_b],.agg #[.bool s_f,.slice A_f n_f c_f,.slice B_f m_f d_f],.agg #[.bool s_l,.slice A_l n_l c_l,.slice B_l m_l d_l]] w (GivesNo w):=by
 have HS:=Lib.hid hs;clear hs
 go_enter Tryz.func101,Tryz.ntmps101
 go_upto_region 1 with (fail)
 generalize hW:World.alloc _ _=W
 obtain ⟨hb,XA,XB,XC,XD,XE,Z,hzW⟩:=mkbx42_15 hW;clear hW;replace v:=v.below hb;replace a:=a.below hb;replace b:=b.below hb;replace f:=f.below hb;replace l:=l.below hb
 refine alongno_region (by simp) rfl rfl rfl XA XB XC v a b hk h1 HS.out ?_
 intro V w_r g_r XR hg_r hvr hv13 hh
 simp only [putAll,Act.put,List.setIfInBounds_toArray,List.set_cons_zero,List.set_cons_succ,hvr,hv13]
 clear hvr hv13
 have hgr:w.heap.size+6≤g_r:=by omega
 replace v:=v.below hh;replace a:=a.below hh;replace b:=b.below hh;replace f:=f.below hh;replace l:=l.below hh;replace XA:=XA.below hh;replace XB:=XB.below hh;replace XC:=XC.below hh;replace XD:=XD.below hh;replace XE:=XE.below hh;replace Z:=Z.below hh;replace hb:=bend hb hh;obtain ⟨xr0,xr1,xr2⟩:=XR.all;have zf0:=Z.f0;have zf1:=Z.f1;have zf2:=Z.f2;obtain ⟨z0,z1,z2⟩:=Z.all
 go_wp2_with fail
 have Z2:=Z.set3 (.bool false) (.slice none 0 0) (.slice none 0 0)
 obtain ⟨g0,g1,g2⟩:=Z2.all
 refine bodyPost_ret (v:=.tuple #[.agg #[.bool false,.slice none 0 0,.slice none 0 0],.bool false]) (by simp [results,Tryz.results101,go_sem,g0,g1,g2]) rfl ?_
 exact ⟨rfl,below_set3 hb (by omega) _ _ _⟩
theorem level_yes {k:Nat} {ax ay bx by_ yv:Rat} (p:PR w s_p A_p n_p c_p B_p m_p d_p t_p E_p i_p e_p F_p j_p f_p ax ay k) (q:PR w s_q A_q n_q c_q B_q m_q d_q t_q E_q i_q e_q F_q j_q f_q bx by_ k) (y:QR w s_y A_y n_y c_y B_y m_y d_y yv k) (hk:k≤40) (h1:1≤k) (hs:shareOK (yv - ay) (by_ - ay)) :
 Calls Tryz.prog 39 #[.agg #[.bool s_p,.slice A_p n_p c_p,.slice B_p m_p d_p,.bool t_p,.slice E_p i_p e_p,.slice F_p j_p f_p],.agg #[.bool s_q,.slice A_q n_q c_q,.slice B_q m_q d_q,.bool t_q,.slice E_q i_q e_q,.slice F_q j_q f_q],.agg #[.bool s_y,.slice A_y n_y c_y,.slice B_y m_y d_y]] w (GivesQT w (ax+(yv - ay) / (by_ - ay)*(bx - ax)) (k+(k+k+1+(k+k+1)+(k+k+1))+1)):=by
 have HS:=Lib.hid hs;clear hs
 go_enter Tryz.func39,Tryz.ntmps39
 go_upto_region 1 with (fail)
 generalize hW:World.alloc _ _=W
 obtain ⟨hb,XA,XB,XC,Z,hzW⟩:=mkbx22_10 hW;clear hW;replace p:=p.below hb;replace q:=q.below hb;replace y:=y.below hb;obtain ⟨xa0,xa1,xa2,xa3,xa4,xa5⟩:=XA.all;obtain ⟨xb0,xb1,xb2,xb3,xb4,xb5⟩:=XB.all;obtain ⟨xc0,xc1,xc2⟩:=XC.all
 go_wp2_with (first
  | (go_at_call 101;(with_reducible refine (along_yes y p.qy q.qy p.qx q.qx hk h1 HS.out).mono ?_);rintro e w_r ⟨s_r,A_r,n_r,c_r,B_r,m_r,d_r,rfl,r,hh⟩
     (try replace Z:=Z.below hh);replace hb:=bend hb hh;have zf0:=Z.f0;have zf1:=Z.f1;have zf2:=Z.f2;obtain ⟨z0,z1,z2⟩:=Z.all))
 have Z2:=Z.set3 (.bool s_r) (.slice A_r n_r c_r) (.slice B_r m_r d_r)
 obtain ⟨g0,g1,g2⟩:=Z2.all
 refine bodyPost_ret (v:=.tuple #[.agg #[.bool s_r,.slice A_r n_r c_r,.slice B_r m_r d_r],.bool true]) (by simp [results,Tryz.results39,go_sem,g0,g1,g2]) rfl ?_
 exact ⟨s_r,A_r,n_r,c_r,B_r,m_r,d_r,rfl,r.set3 Z _ _ _,below_set3 hb (by omega) _ _ _⟩
theorem upright_no {k:Nat} {ax ay bx by_ yv:Rat} (p:PR w s_p A_p n_p c_p B_p m_p d_p t_p E_p i_p e_p F_p j_p f_p ax ay k) (q:PR w s_q A_q n_q c_q B_q m_q d_q t_q E_q i_q e_q F_q j_q f_q bx by_ k) (y:QR w s_y A_y n_y c_y B_y m_y d_y yv k) (hk:k≤40) (h1:1≤k) (hs:¬ shareOK (yv - ax) (bx - ax)) :
 Calls Tryz.prog 40 #[.agg #[.bool s_p,.slice A_p n_p c_p,.slice B_p m_p d_p,.bool t_p,.slice E_p i_p e_p,.slice F_p j_p f_p],.agg #[.bool s_q,.slice A_q n_q c_q,.slice B_q m_q d_q,.bool t_q,.slice E_q i_q e_q,.slice F_q j_q f_q],.agg #[.bool s_y,.slice A_y n_y c_y,.slice B_y m_y d_y]] w (GivesNo w):=by
 have HS:=Lib.hid hs;clear hs
 go_enter Tryz.func40,Tryz.ntmps40
 go_upto_region 1 with (fail)
 generalize hW:World.alloc _ _=W
 obtain ⟨hb,XA,XB,XC,Z,hzW⟩:=mkbx22_10 hW;clear hW;replace p:=p.below hb;replace q:=q.below hb;replace y:=y.below hb;obtain ⟨xa0,xa1,xa2,xa3,xa4,xa5⟩:=XA.all;obtain ⟨xb0,xb1,xb2,xb3,xb4,xb5⟩:=XB.all;obtain ⟨xc0,xc1,xc2⟩:=XC.all
 go_wp2_with (first
  | (go_at_call 101;(with_reducible refine (along_no y p.qx q.qx p.qy q.qy hk h1 HS.out).mono ?_);rintro e w_z ⟨rfl,hh⟩
     (try replace Z:=Z.below hh);replace hb:=bend hb hh;have zf0:=Z.f0;have zf1:=Z.f1;have zf2:=Z.f2;obtain ⟨z0,z1,z2⟩:=Z.all))
 have Z2:=Z.set3 (.bool false) (.slice none 0 0) (.slice none 0 0)
 obtain ⟨g0,g1,g2⟩:=Z2.all
 refine bodyPost_ret (v:=.tuple #[.agg #[.bool false,.slice none 0 0,.slice none 0 0],.bool false]) (by simp [results,Tryz.results40,go_sem,g0,g1,g2]) rfl ?_
 exact ⟨rfl,below_set3 hb (by omega) _ _ _⟩
theorem mkbx43_15 {w W:World} {x0 x1 x2 x3 x4 x5 x6 x7 x8 x9 x10 x11:Value} (h:((((w.alloc (Obj.cells #[x0,x1,x2] 26)).alloc (Obj.cells #[x3,x4,x5] 26)).alloc (Obj.cells #[x6,x7,x8] 26)).alloc (Obj.cells #[x9,x10,x11] 26))=W):Below w.heap.size w W∧B3 W (w.heap.size) x0 x1 x2∧B3 W (w.heap.size+1) x3 x4 x5∧B3 W (w.heap.size+1+1) x6 x7 x8∧B3 W (w.heap.size+1+1+1) x9 x10 x11∧W.heap.size=w.heap.size+4:=by subst h;exact ⟨by exact (((((Below.refl _ _).alloc (Nat.le_refl _) _).alloc (by simp) _).alloc (by simp;omega) _).alloc (by simp;omega) _),by exact (((B3.new' _ _ _ _ _ rfl).alloc _).alloc _).alloc _,by exact ((B3.new' _ _ _ _ _ (by simp)).alloc _).alloc _,by exact (B3.new' _ _ _ _ _ (by simp)).alloc _,by exact B3.new' _ _ _ _ _ (by simp),by simp⟩
theorem apart_0 {k:Nat} {xa xb xc xd:Rat} (a:QR w s_a A_a n_a c_a B_a m_a d_a xa k) (b:QR w s_b A_b n_b c_b B_b m_b d_b xb k) (c:QR w s_c A_c n_c c_c B_c m_c d_c xc k) (d:QR w s_d A_d n_d c_d B_d m_d d_d xd k) (hk:k≤400) (h1:1≤k) (h0:cmpQ xa xc=0) :
 Calls Tryz.prog 84 #[.agg #[.bool s_a,.slice A_a n_a c_a,.slice B_a m_a d_a],.agg #[.bool s_b,.slice A_b n_b c_b,.slice B_b m_b d_b],.agg #[.bool s_c,.slice A_c n_c c_c,.slice B_c m_c d_c],.agg #[.bool s_d,.slice A_d n_d c_d,.slice B_d m_d d_d]] w fun e w'=>e=.returned (.bool false)∧Below w.heap.size w w':=by
 obtain ⟨K,hK⟩:∃ K,cmpQ xa xc=K:=⟨_,rfl⟩
 have HK:=Lib.hid h0;clear hK h0
 go_enter Tryz.func84,Tryz.ntmps84
 go_wp2_with fail
 generalize hW:World.alloc _ _=W
 obtain ⟨hb,XA,XB,XC,XD,hzW⟩:=mkbx43_15 hW;clear hW;replace a:=a.below hb;replace b:=b.below hb;replace c:=c.below hb;replace d:=d.below hb;obtain ⟨xa0,xa1,xa2⟩:=XA.all;obtain ⟨xb0,xb1,xb2⟩:=XB.all;obtain ⟨xc0,xc1,xc2⟩:=XC.all;obtain ⟨xd0,xd1,xd2⟩:=XD.all
 go_wp2_with (first
  | (go_at_call 45;(with_reducible refine (rcmp_q a c hk hk (.inl hk) h1 h1).mono ?_);rintro e w_z ⟨rfl,hh⟩
     rw [HK.out];(try replace a:=a.below hh);(try replace b:=b.below hh);(try replace c:=c.below hh);(try replace d:=d.below hh);(try replace XA:=XA.below hh);(try replace XB:=XB.below hh);(try replace XC:=XC.below hh);(try replace XD:=XD.below hh);replace hb:=bend hb hh;obtain ⟨xa0,xa1,xa2⟩:=XA.all;obtain ⟨xb0,xb1,xb2⟩:=XB.all;obtain ⟨xc0,xc1,xc2⟩:=XC.all;obtain ⟨xd0,xd1,xd2⟩:=XD.all))
 go_ret;exact ⟨rfl,hb⟩
theorem apart_1 {k:Nat} {xa xb xc xd:Rat} (a:QR w s_a A_a n_a c_a B_a m_a d_a xa k) (b:QR w s_b A_b n_b c_b B_b m_b d_b xb k) (c:QR w s_c A_c n_c c_c B_c m_c d_c xc k) (d:QR w s_d A_d n_d c_d B_d m_d d_d xd k) (hk:k≤400) (h1:1≤k) (h0:cmpQ xa xc ≠ 0) (h1_:cmpQ xa xd ≠ cmpQ xa xc) :
 Calls Tryz.prog 84 #[.agg #[.bool s_a,.slice A_a n_a c_a,.slice B_a m_a d_a],.agg #[.bool s_b,.slice A_b n_b c_b,.slice B_b m_b d_b],.agg #[.bool s_c,.slice A_c n_c c_c,.slice B_c m_c d_c],.agg #[.bool s_d,.slice A_d n_d c_d,.slice B_d m_d d_d]] w fun e w'=>e=.returned (.bool false)∧Below w.heap.size w w':=by
 obtain ⟨K,hK⟩:∃ K,cmpQ xa xc=K:=⟨_,rfl⟩
 rw [hK] at h0 h1_
 have hk0:((K:Int) != 0)=true:=by simpa using h0
 obtain ⟨M,hM,hM0⟩:∃ M,cmpQ xa xd=M∧((M:Int) == K)=false:=⟨_,rfl,by simpa using h1_⟩
 have HM:=Lib.hid hM;clear hM;have HK:=Lib.hid hK;clear hK h0 h1_
 have hkk:((K:Int) == K)=true:=by simp
 go_enter Tryz.func84,Tryz.ntmps84
 go_wp2_with fail
 generalize hW:World.alloc _ _=W
 obtain ⟨hb,XA,XB,XC,XD,hzW⟩:=mkbx43_15 hW;clear hW;replace a:=a.below hb;replace b:=b.below hb;replace c:=c.below hb;replace d:=d.below hb;obtain ⟨xa0,xa1,xa2⟩:=XA.all;obtain ⟨xb0,xb1,xb2⟩:=XB.all;obtain ⟨xc0,xc1,xc2⟩:=XC.all;obtain ⟨xd0,xd1,xd2⟩:=XD.all
 go_wp2_with (first
  | (go_at_call 45;(with_reducible refine (rcmp_q a c hk hk (.inl hk) h1 h1).mono ?_);rintro e w_z ⟨rfl,hh⟩
     rw [HK.out];(try replace a:=a.below hh);(try replace b:=b.below hh);(try replace c:=c.below hh);(try replace d:=d.below hh);(try replace XA:=XA.below hh);(try replace XB:=XB.below hh);(try replace XC:=XC.below hh);(try replace XD:=XD.below hh);replace hb:=bend hb hh;obtain ⟨xa0,xa1,xa2⟩:=XA.all;obtain ⟨xb0,xb1,xb2⟩:=XB.all;obtain ⟨xc0,xc1,xc2⟩:=XC.all;obtain ⟨xd0,xd1,xd2⟩:=XD.all)
  | (go_at_call 45;(with_reducible refine (rcmp_q a d hk hk (.inl hk) h1 h1).mono ?_);rintro e w_z ⟨rfl,hh⟩
     rw [HM.out];(try replace a:=a.below hh);(try replace b:=b.below hh);(try replace c:=c.below hh);(try replace d:=d.below hh);(try replace XA:=XA.below hh);(try replace XB:=XB.below hh);(try replace XC:=XC.below hh);(try replace XD:=XD.below hh);replace hb:=bend hb hh;obtain ⟨xa0,xa1,xa2⟩:=XA.all;obtain ⟨xb0,xb1,xb2⟩:=XB.all;obtain ⟨xc0,xc1,xc2⟩:=XC.all;obtain ⟨xd0,xd1,xd2⟩:=XD.all))
 go_ret;exact ⟨rfl,hb⟩
theorem apart_2 {k:Nat} {xa xb xc xd:Rat} (a:QR w s_a A_a n_a c_a B_a m_a d_a xa k) (b:QR w s_b A_b n_b c_b B_b m_b d_b xb k) (c:QR w s_c A_c n_c c_c B_c m_c d_c xc k) (d:QR w s_d A_d n_d c_d B_d m_d d_d xd k) (hk:k≤400) (h1:1≤k) (h0:cmpQ xa xc ≠ 0) (h1_:cmpQ xa xd=cmpQ xa xc) (h2_:cmpQ xb xc ≠ cmpQ xa xc) :
 Calls Tryz.prog 84 #[.agg #[.bool s_a,.slice A_a n_a c_a,.slice B_a m_a d_a],.agg #[.bool s_b,.slice A_b n_b c_b,.slice B_b m_b d_b],.agg #[.bool s_c,.slice A_c n_c c_c,.slice B_c m_c d_c],.agg #[.bool s_d,.slice A_d n_d c_d,.slice B_d m_d d_d]] w fun e w'=>e=.returned (.bool false)∧Below w.heap.size w w':=by
 obtain ⟨K,hK⟩:∃ K,cmpQ xa xc=K:=⟨_,rfl⟩
 rw [hK] at h0 h1_ h2_
 have hk0:((K:Int) != 0)=true:=by simpa using h0
 have H0:=Lib.hid h1_
 obtain ⟨M,hM,hM0⟩:∃ M,cmpQ xb xc=M∧((M:Int) == K)=false:=⟨_,rfl,by simpa using h2_⟩
 have HM:=Lib.hid hM;clear hM;have HK:=Lib.hid hK;clear hK h0 h1_ h2_
 have hkk:((K:Int) == K)=true:=by simp
 go_enter Tryz.func84,Tryz.ntmps84
 go_wp2_with fail
 generalize hW:World.alloc _ _=W
 obtain ⟨hb,XA,XB,XC,XD,hzW⟩:=mkbx43_15 hW;clear hW;replace a:=a.below hb;replace b:=b.below hb;replace c:=c.below hb;replace d:=d.below hb;obtain ⟨xa0,xa1,xa2⟩:=XA.all;obtain ⟨xb0,xb1,xb2⟩:=XB.all;obtain ⟨xc0,xc1,xc2⟩:=XC.all;obtain ⟨xd0,xd1,xd2⟩:=XD.all
 go_wp2_with (first
  | (go_at_call 45;(with_reducible refine (rcmp_q a c hk hk (.inl hk) h1 h1).mono ?_);rintro e w_z ⟨rfl,hh⟩
     rw [HK.out];(try replace a:=a.below hh);(try replace b:=b.below hh);(try replace c:=c.below hh);(try replace d:=d.below hh);(try replace XA:=XA.below hh);(try replace XB:=XB.below hh);(try replace XC:=XC.below hh);(try replace XD:=XD.below hh);replace hb:=bend hb hh;obtain ⟨xa0,xa1,xa2⟩:=XA.all;obtain ⟨xb0,xb1,xb2⟩:=XB.all;obtain ⟨xc0,xc1,xc2⟩:=XC.all;obtain ⟨xd0,xd1,xd2⟩:=XD.all)
  | (go_at_call 45;(with_reducible refine (rcmp_q a d hk hk (.inl hk) h1 h1).mono ?_);rintro e w_z ⟨rfl,hh⟩
     rw [H0.out];(try replace a:=a.below hh);(try replace b:=b.below hh);(try replace c:=c.below hh);(try replace d:=d.below hh);(try replace XA:=XA.below hh);(try replace XB:=XB.below hh);(try replace XC:=XC.below hh);(try replace XD:=XD.below hh);replace hb:=bend hb hh;obtain ⟨xa0,xa1,xa2⟩:=XA.all;obtain ⟨xb0,xb1,xb2⟩:=XB.all;obtain ⟨xc0,xc1,xc2⟩:=XC.all;obtain ⟨xd0,xd1,xd2⟩:=XD.all)
  | (go_at_call 45;(with_reducible refine (rcmp_q b c hk hk (.inl hk) h1 h1).mono ?_);rintro e w_z ⟨rfl,hh⟩
     rw [HM.out];(try replace a:=a.below hh);(try replace b:=b.below hh);(try replace c:=c.below hh);(try replace d:=d.below hh);(try replace XA:=XA.below hh);(try replace XB:=XB.below hh);(try replace XC:=XC.below hh);(try replace XD:=XD.below hh);replace hb:=bend hb hh;obtain ⟨xa0,xa1,xa2⟩:=XA.all;obtain ⟨xb0,xb1,xb2⟩:=XB.all;obtain ⟨xc0,xc1,xc2⟩:=XC.all;obtain ⟨xd0,xd1,xd2⟩:=XD.all))
 go_ret;exact ⟨rfl,hb⟩
theorem apart_3 {k:Nat} {xa xb xc xd:Rat} (a:QR w s_a A_a n_a c_a B_a m_a d_a xa k) (b:QR w s_b A_b n_b c_b B_b m_b d_b xb k) (c:QR w s_c A_c n_c c_c B_c m_c d_c xc k) (d:QR w s_d A_d n_d c_d B_d m_d d_d xd k) (hk:k≤400) (h1:1≤k) (h0:cmpQ xa xc ≠ 0) (h1_:cmpQ xa xd=cmpQ xa xc) (h2_:cmpQ xb xc=cmpQ xa xc) (h3_:cmpQ xb xd ≠ cmpQ xa xc) :
 Calls Tryz.prog 84 #[.agg #[.bool s_a,.slice A_a n_a c_a,.slice B_a m_a d_a],.agg #[.bool s_b,.slice A_b n_b c_b,.slice B_b m_b d_b],.agg #[.bool s_c,.slice A_c n_c c_c,.slice B_c m_c d_c],.agg #[.bool s_d,.slice A_d n_d c_d,.slice B_d m_d d_d]] w fun e w'=>e=.returned (.bool false)∧Below w.heap.size w w':=by
 obtain ⟨K,hK⟩:∃ K,cmpQ xa xc=K:=⟨_,rfl⟩
 rw [hK] at h0 h1_ h2_ h3_
 have hk0:((K:Int) != 0)=true:=by simpa using h0
 have H0:=Lib.hid h1_;have H1:=Lib.hid h2_
 obtain ⟨M,hM,hM0⟩:∃ M,cmpQ xb xd=M∧((M:Int) == K)=false:=⟨_,rfl,by simpa using h3_⟩
 have HM:=Lib.hid hM;clear hM;have HK:=Lib.hid hK;clear hK h0 h1_ h2_ h3_
 have hkk:((K:Int) == K)=true:=by simp
 go_enter Tryz.func84,Tryz.ntmps84
 go_wp2_with fail
 generalize hW:World.alloc _ _=W
 obtain ⟨hb,XA,XB,XC,XD,hzW⟩:=mkbx43_15 hW;clear hW;replace a:=a.below hb;replace b:=b.below hb;replace c:=c.below hb;replace d:=d.below hb;obtain ⟨xa0,xa1,xa2⟩:=XA.all;obtain ⟨xb0,xb1,xb2⟩:=XB.all;obtain ⟨xc0,xc1,xc2⟩:=XC.all;obtain ⟨xd0,xd1,xd2⟩:=XD.all
 go_wp2_with (first
  | (go_at_call 45;(with_reducible refine (rcmp_q a c hk hk (.inl hk) h1 h1).mono ?_);rintro e w_z ⟨rfl,hh⟩
     rw [HK.out];(try replace a:=a.below hh);(try replace b:=b.below hh);(try replace c:=c.below hh);(try replace d:=d.below hh);(try replace XA:=XA.below hh);(try replace XB:=XB.below hh);(try replace XC:=XC.below hh);(try replace XD:=XD.below hh);replace hb:=bend hb hh;obtain ⟨xa0,xa1,xa2⟩:=XA.all;obtain ⟨xb0,xb1,xb2⟩:=XB.all;obtain ⟨xc0,xc1,xc2⟩:=XC.all;obtain ⟨xd0,xd1,xd2⟩:=XD.all)
  | (go_at_call 45;(with_reducible refine (rcmp_q a d hk hk (.inl hk) h1 h1).mono ?_);rintro e w_z ⟨rfl,hh⟩
     rw [H0.out];(try replace a:=a.below hh);(try replace b:=b.below hh);(try replace c:=c.below hh);(try replace d:=d.below hh);(try replace XA:=XA.below hh);(try replace XB:=XB.below hh);(try replace XC:=XC.below hh);(try replace XD:=XD.below hh);replace hb:=bend hb hh;obtain ⟨xa0,xa1,xa2⟩:=XA.all;obtain ⟨xb0,xb1,xb2⟩:=XB.all;obtain ⟨xc0,xc1,xc2⟩:=XC.all;obtain ⟨xd0,xd1,xd2⟩:=XD.all)
  | (go_at_call 45;(with_reducible refine (rcmp_q b c hk hk (.inl hk) h1 h1).mono ?_);rintro e w_z ⟨rfl,hh⟩
     rw [H1.out];(try replace a:=a.below hh);(try replace b:=b.below hh);(try replace c:=c.below hh);(try replace d:=d.below hh);(try replace XA:=XA.below hh);(try replace XB:=XB.below hh);(try replace XC:=XC.below hh);(try replace XD:=XD.below hh);replace hb:=bend hb hh;obtain ⟨xa0,xa1,xa2⟩:=XA.all;obtain ⟨xb0,xb1,xb2⟩:=XB.all;obtain ⟨xc0,xc1,xc2⟩:=XC.all;obtain ⟨xd0,xd1,xd2⟩:=XD.all)
  | (go_at_call 45;(with_reducible refine (rcmp_q b d hk hk (.inl hk) h1 h1).mono ?_);rintro e w_z ⟨rfl,hh⟩
     rw [HM.out];(try replace a:=a.below hh);(try replace b:=b.below hh);(try replace c:=c.below hh);(try replace d:=d.below hh);(try replace XA:=XA.below hh);(try replace XB:=XB.below hh);(try replace XC:=XC.below hh);(try replace XD:=XD.below hh);replace hb:=bend hb hh;obtain ⟨xa0,xa1,xa2⟩:=XA.all;obtain ⟨xb0,xb1,xb2⟩:=XB.all;obtain ⟨xc0,xc1,xc2⟩:=XC.all;obtain ⟨xd0,xd1,xd2⟩:=XD.all))
 go_ret;exact ⟨rfl,hb⟩
theorem apart_4 {k:Nat} {xa xb xc xd:Rat} (a:QR w s_a A_a n_a c_a B_a m_a d_a xa k) (b:QR w s_b A_b n_b c_b B_b m_b d_b xb k) (c:QR w s_c A_c n_c c_c B_c m_c d_c xc k) (d:QR w s_d A_d n_d c_d B_d m_d d_d xd k) (hk:k≤400) (h1:1≤k) (h0:cmpQ xa xc ≠ 0) (h1_:cmpQ xa xd=cmpQ xa xc) (h2_:cmpQ xb xc=cmpQ xa xc) (h3_:cmpQ xb xd=cmpQ xa xc) :
 Calls Tryz.prog 84 #[.agg #[.bool s_a,.slice A_a n_a c_a,.slice B_a m_a d_a],.agg #[.bool s_b,.slice A_b n_b c_b,.slice B_b m_b d_b],.agg #[.bool s_c,.slice A_c n_c c_c,.slice B_c m_c d_c],.agg #[.bool s_d,.slice A_d n_d c_d,.slice B_d m_d d_d]] w fun e w'=>e=.returned (.bool true)∧Below w.heap.size w w':=by
 obtain ⟨K,hK⟩:∃ K,cmpQ xa xc=K:=⟨_,rfl⟩
 rw [hK] at h0 h1_ h2_ h3_
 have hk0:((K:Int) != 0)=true:=by simpa using h0
 have H0:=Lib.hid h1_;have H1:=Lib.hid h2_;have H2:=Lib.hid h3_;have HK:=Lib.hid hK;clear hK h0 h1_ h2_ h3_
 have hkk:((K:Int) == K)=true:=by simp
 go_enter Tryz.func84,Tryz.ntmps84
 go_wp2_with fail
 generalize hW:World.alloc _ _=W
 obtain ⟨hb,XA,XB,XC,XD,hzW⟩:=mkbx43_15 hW;clear hW;replace a:=a.below hb;replace b:=b.below hb;replace c:=c.below hb;replace d:=d.below hb;obtain ⟨xa0,xa1,xa2⟩:=XA.all;obtain ⟨xb0,xb1,xb2⟩:=XB.all;obtain ⟨xc0,xc1,xc2⟩:=XC.all;obtain ⟨xd0,xd1,xd2⟩:=XD.all
 go_wp2_with (first
  | (go_at_call 45;(with_reducible refine (rcmp_q a c hk hk (.inl hk) h1 h1).mono ?_);rintro e w_z ⟨rfl,hh⟩
     rw [HK.out];(try replace a:=a.below hh);(try replace b:=b.below hh);(try replace c:=c.below hh);(try replace d:=d.below hh);(try replace XA:=XA.below hh);(try replace XB:=XB.below hh);(try replace XC:=XC.below hh);(try replace XD:=XD.below hh);replace hb:=bend hb hh;obtain ⟨xa0,xa1,xa2⟩:=XA.all;obtain ⟨xb0,xb1,xb2⟩:=XB.all;obtain ⟨xc0,xc1,xc2⟩:=XC.all;obtain ⟨xd0,xd1,xd2⟩:=XD.all)
  | (go_at_call 45;(with_reducible refine (rcmp_q a d hk hk (.inl hk) h1 h1).mono ?_);rintro e w_z ⟨rfl,hh⟩
     rw [H0.out];(try replace a:=a.below hh);(try replace b:=b.below hh);(try replace c:=c.below hh);(try replace d:=d.below hh);(try replace XA:=XA.below hh);(try replace XB:=XB.below hh);(try replace XC:=XC.below hh);(try replace XD:=XD.below hh);replace hb:=bend hb hh;obtain ⟨xa0,xa1,xa2⟩:=XA.all;obtain ⟨xb0,xb1,xb2⟩:=XB.all;obtain ⟨xc0,xc1,xc2⟩:=XC.all;obtain ⟨xd0,xd1,xd2⟩:=XD.all)
  | (go_at_call 45;(with_reducible refine (rcmp_q b c hk hk (.inl hk) h1 h1).mono ?_);rintro e w_z ⟨rfl,hh⟩
     rw [H1.out];(try replace a:=a.below hh);(try replace b:=b.below hh);(try replace c:=c.below hh);(try replace d:=d.below hh);(try replace XA:=XA.below hh);(try replace XB:=XB.below hh);(try replace XC:=XC.below hh);(try replace XD:=XD.below hh);replace hb:=bend hb hh;obtain ⟨xa0,xa1,xa2⟩:=XA.all;obtain ⟨xb0,xb1,xb2⟩:=XB.all;obtain ⟨xc0,xc1,xc2⟩:=XC.all;obtain ⟨xd0,xd1,xd2⟩:=XD.all)
  | (go_at_call 45;(with_reducible refine (rcmp_q b d hk hk (.inl hk) h1 h1).mono ?_);rintro e w_z ⟨rfl,hh⟩
     rw [H2.out];(try replace a:=a.below hh);(try replace b:=b.below hh);(try replace c:=c.below hh);(try replace d:=d.below hh);(try replace XA:=XA.below hh);(try replace XB:=XB.below hh);(try replace XC:=XC.below hh);(try replace XD:=XD.below hh);replace hb:=bend hb hh;obtain ⟨xa0,xa1,xa2⟩:=XA.all;obtain ⟨xb0,xb1,xb2⟩:=XB.all;obtain ⟨xc0,xc1,xc2⟩:=XC.all;obtain ⟨xd0,xd1,xd2⟩:=XD.all))
 go_ret;exact ⟨rfl,hb⟩
theorem apart_iff {xa xb xc xd:Rat}:apartQ xa xb xc xd ↔ cmpQ xa xc ≠ 0∧cmpQ xa xd=cmpQ xa xc∧cmpQ xb xc=cmpQ xa xc∧cmpQ xb xd=cmpQ xa xc:=by
 unfold apartQ cmpQ
 rcases (show xa < xc ∨ xa=xc ∨ xc < xa by rcases Rat.le_total (a:=xa) (b:=xc) with h | h <;> rcases Rat.le_iff_lt_or_eq.1 h with q | q <;> grind) with h | h | h <;> (repeat' split) <;> grind
theorem apart_q {k:Nat} {xa xb xc xd:Rat} (a:QR w s_a A_a n_a c_a B_a m_a d_a xa k) (b:QR w s_b A_b n_b c_b B_b m_b d_b xb k) (c:QR w s_c A_c n_c c_c B_c m_c d_c xc k) (d:QR w s_d A_d n_d c_d B_d m_d d_d xd k) (hk:k≤400) (h1:1≤k) (R:Bool) (hR:R=true ↔ apartQ xa xb xc xd) :
 Calls Tryz.prog 84 #[.agg #[.bool s_a,.slice A_a n_a c_a,.slice B_a m_a d_a],.agg #[.bool s_b,.slice A_b n_b c_b,.slice B_b m_b d_b],.agg #[.bool s_c,.slice A_c n_c c_c,.slice B_c m_c d_c],.agg #[.bool s_d,.slice A_d n_d c_d,.slice B_d m_d d_d]] w fun e w'=>e=.returned (.bool R)∧Below w.heap.size w w':=by
 rw [apart_iff] at hR
 have no:¬ (cmpQ xa xc ≠ 0∧cmpQ xa xd=cmpQ xa xc∧cmpQ xb xc=cmpQ xa xc∧cmpQ xb xd=cmpQ xa xc)→R=false:=fun h=>by
  cases R
  · rfl
  · exact absurd (hR.1 rfl) h
 by_cases h0:cmpQ xa xc=0
 · rw [no fun h=>h.1 h0];exact apart_0 a b c d hk h1 h0
 · by_cases h1_:cmpQ xa xd=cmpQ xa xc
   · by_cases h2_:cmpQ xb xc=cmpQ xa xc
     · by_cases h3_:cmpQ xb xd=cmpQ xa xc
       · rw [hR.2 ⟨h0,h1_,h2_,h3_⟩];exact apart_4 a b c d hk h1 h0 h1_ h2_ h3_
       · rw [no fun h=>h3_ h.2.2.2];exact apart_3 a b c d hk h1 h0 h1_ h2_ h3_
     · rw [no fun h=>h2_ h.2.2.1];exact apart_2 a b c d hk h1 h0 h1_ h2_
   · rw [no fun h=>h1_ h.2.1];exact apart_1 a b c d hk h1 h0 h1_
theorem qr_zero (w:World):QR w false none 0 0 none 0 0 0 1:=by
 refine ⟨0,0,⟨[],⟨rfl,fun h=>absurd h (by decide)⟩,Lim.nil,rfl,Nat.le_refl _,by decide,by decide⟩,⟨[],⟨rfl,fun h=>absurd h (by decide)⟩,Lim.nil,rfl,Nat.le_refl _,by decide⟩,by decide +kernel⟩
theorem pr_zero (w:World):PR w false none 0 0 none 0 0 false none 0 0 none 0 0 0 0 1:=⟨qr_zero w,qr_zero w⟩
theorem fresh_p {k:Nat} {x y:Rat} (p:PR w s_p A_p n_p c_p B_p m_p d_p t_p E_p i_p e_p F_p j_p f_p x y k) (hk:k≤100) (h1:1≤k) :
 Calls Tryz.prog 143 #[.agg #[.bool s_p,.slice A_p n_p c_p,.slice B_p m_p d_p,.bool t_p,.slice E_p i_p e_p,.slice F_p j_p f_p]] w (GivesPt w x y (k+1+1)):=by
 rw [show x=x+0 by grind,show y=y+0 by grind]
 go_enter Tryz.func143,Tryz.ntmps143
 go_upto_region 1 with (fail)
 generalize hW:World.alloc _ _=W
 obtain ⟨hb,XA,Z,hzW⟩:=mkbx23_10 hW;clear hW;replace p:=p.below hb;obtain ⟨xa0,xa1,xa2,xa3,xa4,xa5⟩:=XA.all
 go_wp2_with (first
  | (go_at_call 104;(with_reducible refine (padd_p p (pr_zero _) (by omega) (by omega) (.inl (by omega)) h1 (by omega)).mono ?_);rintro e w_r ⟨s_r,A_r,n_r,c_r,B_r,m_r,d_r,t_r,E_r,i_r,e_r,F_r,j_r,f_r,rfl,r,hh⟩
     (try replace Z:=Z.below hh);replace hb:=bend hb hh;have zg0:=Z.f0;have zg1:=Z.f1;have zg2:=Z.f2;have zg3:=Z.f3;have zg4:=Z.f4;have zg5:=Z.f5;obtain ⟨zc0,zc1,zc2,zc3,zc4,zc5⟩:=Z.all))
 have Z2:=Z.set6 (.bool s_r) (.slice A_r n_r c_r) (.slice B_r m_r d_r) (.bool t_r) (.slice E_r i_r e_r) (.slice F_r j_r f_r)
 obtain ⟨g0,g1,g2,g3,g4,g5⟩:=Z2.all
 refine bodyPost_ret (v:=.agg #[.bool s_r,.slice A_r n_r c_r,.slice B_r m_r d_r,.bool t_r,.slice E_r i_r e_r,.slice F_r j_r f_r]) (by simp [results,Tryz.results143,go_sem,g0,g1,g2,g3,g4,g5]) rfl ?_
 exact ⟨s_r,A_r,n_r,c_r,B_r,m_r,d_r,t_r,E_r,i_r,e_r,F_r,j_r,f_r,rfl,r.set6 Z _ _ _ _ _ _,below_set6 hb (by omega) _ _ _ _ _ _⟩
end
section
open Go Go.RowKit
structure PV where
 s:Bool
 A:Option Addr
 n:Nat
 c:Nat
 B:Option Addr
 m:Nat
 d:Nat
 t:Bool
 E:Option Addr
 i:Nat
 e:Nat
 F:Option Addr
 j:Nat
 f:Nat
def PV.cells (p:PV):List Value:=[.bool p.s,.slice p.A p.n p.c,.slice p.B p.m p.d,.bool p.t,.slice p.E p.i p.e,.slice p.F p.j p.f]
def PV.PG (w:World) (p:PV) (u:Rat × Rat) (k:Nat):Prop:=Go.Proofs.YtmgklaklnaihpaaGreat.PG w p.s p.A p.n p.c p.B p.m p.d p.t p.E p.i p.e p.F p.j p.f u.1 u.2 k
def PV.PR (w:World) (p:PV) (u:Rat × Rat) (k:Nat):Prop:=Go.Proofs.YtmgklaklnaihpaaGreat.PR w p.s p.A p.n p.c p.B p.m p.d p.t p.E p.i p.e p.F p.j p.f u.1 u.2 k
def PV.RP (w:World) (p:PV) (u:Rat × Rat) (k:Nat):Prop:=Go.Proofs.YtmgklaklnaihpaaGreat.RP w p.s p.A p.n p.c p.B p.m p.d p.t p.E p.i p.e p.F p.j p.f u.1 u.2 k
def pvs (L:List PV):List Value:=L.flatMap PV.cells
theorem pvs_nil:pvs []=[]:=rfl
theorem pvs_cons (p:PV) (L:List PV):pvs (p :: L)=p.cells ++ pvs L:=List.flatMap_cons
theorem pvs_append (L M:List PV):pvs (L ++ M)=pvs L ++ pvs M:=List.flatMap_append
theorem pvs_length (L:List PV):(pvs L).length=L.length*6:=by
 induction L with
 | nil=>rfl
 | cons p L ih=>rw [pvs_cons,List.length_append,ih,List.length_cons];show 6+_=_;omega
theorem pvs_get {L:List PV} {i:Nat} {p:PV} (h:L[i]?=some p) {j:Nat} (hj:j < 6):(pvs L)[i*6+j]?=p.cells[j]?:=by
 induction L generalizing i with
 | nil=>cases h
 | cons q L ih =>
   rw [pvs_cons]
   match i with
   | 0 =>
     obtain rfl:q=p:=by simpa using h
     rw [List.getElem?_append_left (show 0*6+j < q.cells.length by show _ < 6;omega)]
     congr 1;omega
   | i+1 =>
     rw [List.getElem?_append_right (show q.cells.length≤(i+1)*6+j by show 6≤_;omega)]
     rw [show (i+1)*6+j - q.cells.length=i*6+j by show (i+1)*6+j - 6=_;omega]
     exact ih h
theorem pvs_free (L:List PV):∀ u ∈ pvs L,∀ (k:IntKind) (x:Int),u ≠ .int k x:=by
 intro u hu k x
 obtain ⟨p,_,hp⟩:=List.mem_flatMap.1 hu
 simp only [PV.cells,List.mem_cons,List.not_mem_nil,or_false] at hp
 rcases hp with rfl | rfl | rfl | rfl | rfl | rfl <;> exact fun e=>by cases e
theorem pvs_one (L:List PV):∀ u ∈ pvs L,u.oneCell'=true:=by
 intro u hu
 obtain ⟨p,_,hp⟩:=List.mem_flatMap.1 hu
 simp only [PV.cells,List.mem_cons,List.not_mem_nil,or_false] at hp
 rcases hp with rfl | rfl | rfl | rfl | rfl | rfl <;> rfl
structure Ln (T:TypeId) (base:Nat) (w:World) (v:Value) (L:List PV):Prop where
 own:w.ownsRow base T 6 v L.length (pvs L)
 free:∀ g,v.ownBlock=some g→∃ cs,BoxAt T w g cs
section
variable {T:TypeId} {base:Nat} {w w':World} {v:Value} {L:List PV}
theorem Ln.nil (T:TypeId) (base:Nat) (w:World):Ln T base w (.slice none 0 0) []:=⟨World.ownsRow_nil w base T 6,fun g h=>by cases h⟩
theorem Ln.kept (h:Ln T base w v L) (hb:∀ g,v.ownBlock=some g→w'.heap[g]?=w.heap[g]?):Ln T base w' v L:=by
 refine ⟨⟨h.own.1,?_⟩,fun g hg=>?_⟩
 · rcases h.own.2 with hn | ⟨g,cap,cur,rfl,h1,h2,h3⟩
   · exact .inl hn
   · exact .inr ⟨g,cap,cur,rfl,h1,(hb g rfl).trans h2,h3⟩
 · obtain ⟨cs,hc⟩:=h.free g hg
   exact ⟨cs,(hb g hg).trans hc.at_,hc.free⟩
theorem Ln.below (h:Ln T base w v L) (hb:Below w.heap.size w w'):Ln T base w' v L:=h.kept fun g hg=>by
 obtain ⟨cs,hc⟩:=h.free g hg
 exact hb.block g hc.lt
theorem Ln.base_le {b:Nat} (h:Ln T base w v L) (hb:b≤base):Ln T b w v L:=by
 refine ⟨⟨h.own.1,?_⟩,h.free⟩
 rcases h.own.2 with hn | ⟨g,cap,cur,rfl,h1,h2⟩
 · exact .inl hn
 · exact .inr ⟨g,cap,cur,rfl,Nat.le_trans hb h1,h2⟩
theorem Ln.lit (w:World) (L:List PV) (hb:base≤w.heap.size) (hL:L.length≤1000000):Ln T base (w.alloc (.cells (pvs L).toArray T)) (.slice (some ⟨w.heap.size,0,none⟩) L.length L.length) L:=by
 refine ⟨⟨pvs_length L,.inr ⟨w.heap.size,L.length,_,rfl,hb,heap_alloc_new w _,Nat.le_refl _,by unfold maxLen;omega,?_,?_⟩⟩,fun g hg=>?_⟩
 · simp [pvs_length]
 · simp [← pvs_length]
 · obtain rfl:w.heap.size=g:=by simpa [Value.ownBlock] using hg
   refine ⟨(pvs L).toArray,heap_alloc_new w _,fun i k x e=>?_⟩
   rw [List.getElem?_toArray] at e
   exact pvs_free L _ (List.mem_of_getElem? e) k x rfl
theorem Ln.form (h:Ln T base w v L):∃ A c,v=.slice A L.length c∧L.length≤c∧(A=none→c=0):=by
 rcases h.own.2 with ⟨rfl,hn⟩ | ⟨g,cap,cur,rfl,_,_,h3,_⟩
 · exact ⟨none,0,by rw [hn],by omega,fun _=>rfl⟩
 · exact ⟨_,cap,rfl,h3,fun e=>by cases e⟩
theorem Ln.at_ (h:Ln T base w v L) {i:Nat} {p:PV} (hi:L[i]?=some p):∃ g c,v=.slice (some ⟨g,0,none⟩) L.length c∧i < L.length∧base≤g∧g < w.heap.size ∧
 w.cell? ⟨g,i*6,none⟩=some (.bool p.s)∧w.cell? ⟨g,i*6+1,none⟩=some (.slice p.A p.n p.c)∧w.cell? ⟨g,i*6+2,none⟩=some (.slice p.B p.m p.d) ∧
 w.cell? ⟨g,i*6+3,none⟩=some (.bool p.t)∧w.cell? ⟨g,i*6+4,none⟩=some (.slice p.E p.i p.e)∧w.cell? ⟨g,i*6+5,none⟩=some (.slice p.F p.j p.f):=by
 have hlt:i < L.length:=(List.getElem?_eq_some_iff.1 hi).1
 rcases h.own.2 with ⟨_,hn⟩ | ⟨g,cap,cur,hv,hb,hg,_⟩
 · omega
 · have hc:=h.own.cells (g:=g) (by rw [hv];rfl)
   have ha:∀ j,(⟨g,0,none⟩:Addr).add j=⟨g,j,none⟩:=fun j=>by unfold Addr.add;split <;> simp_all
   have key:∀ j,j < 6→∀ u,p.cells[j]?=some u→w.cell? ⟨g,i*6+j,none⟩=some u:=fun j hj u hu=>by
    have:=hc (i*6+j) u ((pvs_get hi hj).trans hu)
    rwa [ha] at this
   have hlt2:g < w.heap.size:=by
    rcases Nat.lt_or_ge g w.heap.size with q | q
    · exact q
    · rw [Array.getElem?_eq_none q] at hg;cases hg
   exact ⟨g,cap,hv,hlt,hb,hlt2,key 0 (by decide) _ rfl,key 1 (by decide) _ rfl,key 2 (by decide) _ rfl,key 3 (by decide) _ rfl,key 4 (by decide) _ rfl,key 5 (by decide) _ rfl⟩
end
def zpt:Value:=.agg #[.bool false,.slice none 0 0,.slice none 0 0,.bool false,.slice none 0 0,.slice none 0 0]
theorem info_pt:(Tryz.prog.info? 56).map (fun i=>(i.zero,i.size,i.bytes))=some (some zpt,6,112):=by kernel_rfl
theorem info_rpt:(Tryz.prog.info? 60).map (fun i=>(i.zero,i.size,i.bytes))=some (some zpt,6,112):=by kernel_rfl
theorem zero_free (n:Nat):∀ u ∈ (Builtin.zeroCells zpt.cells n).toList,∀ (k:IntKind) (x:Int),u ≠ .int k x:=by
 intro u hu k x
 simp only [Builtin.zeroCells,Array.toList_map,List.mem_map] at hu
 obtain ⟨i,_,rfl⟩:=hu
 have h:i % zpt.cells.size < 6:=Nat.mod_lt _ (by decide)
 generalize i % zpt.cells.size=j at h
 match j,h with
 | 0,_=>exact fun e=>by cases e
 | 1,_=>exact fun e=>by cases e
 | 2,_=>exact fun e=>by cases e
 | 3,_=>exact fun e=>by cases e
 | 4,_=>exact fun e=>by cases e
 | 5,_=>exact fun e=>by cases e
 | j+6,h=>omega
theorem run_push {T tS ty:TypeId} {base b:Nat} {v:Value} {L:List PV} {p:PV} {k0:Nat} (ht:Tryz.prog.underlying tS=some (.slice T)) (hinfo:(Tryz.prog.info? T).map (fun i=>(i.zero,i.size,i.bytes))=some (some zpt,6,112))
 (h:Ln T base w v L) (hbase:base≤w.heap.size) (hL:L.length≤1000000) (hb:w.heap[b]?=some (.cells p.cells.toArray T (0,0))) :
 ∃ v' w',(Builtin.append_ #[tS,tS] ty #[v,.slice (some ⟨b,0,none⟩) 1 k0]).run Tryz.prog w=.ok v' w'∧Ln T base w' v' (L ++ [p])∧w.grownBy w' v.ownBlock:=by
 obtain ⟨i0,hi,hz,hs,hby⟩:=info_parts hinfo
 have hnews:∀ j u,p.cells[j]?=some u→w.cell? ((⟨b,0,none⟩:Addr).add j)=some u:=fun j u hu=>World.news_of_block hb j u (by simpa using hu)
 have h1:∀ u ∈ p.cells,u.oneCell'=true:=fun u hu=>pvs_one [p] u (by rw [pvs_cons,pvs_nil,List.append_nil];exact hu)
 have hfree:∀ u ∈ p.cells,∀ (k:IntKind) (x:Int),u ≠ .int k x:=fun u hu=>pvs_free [p] u (by rw [pvs_cons,pvs_nil,List.append_nil];exact hu)
 obtain ⟨v',w',hr,hown,hg,_⟩:=run_append_own (P:=Tryz.prog) w base tS ty T i0 zpt 6 112 ht hi hz hs hby rfl (by decide) v L.length (pvs L) h.own ⟨b,0,none⟩ 1 k0 p.cells rfl hnews h1 (by unfold maxLen;omega) (by omega) hbase
 refine ⟨v',w',hr,⟨by rw [pvs_append,List.length_append,pvs_cons,pvs_nil,List.append_nil];exact hown,?_⟩,hg⟩
 have fr:∀ (cs:List Value),(∀ u ∈ cs,∀ (k:IntKind) (x:Int),u ≠ .int k x)→∀ (i:Nat) (k:IntKind) (x:Int),cs.toArray[i]? ≠ some (Value.int k x):=fun cs hc i k x e=>by
  rw [List.getElem?_toArray] at e
  exact hc _ (List.mem_of_getElem? e) k x rfl
 intro g hgv
 rcases h.own.2 with ⟨rfl,hn⟩ | ⟨g0,cap,cur,rfl,_,hg0,hnc,hcm,hcs,htake⟩
 · have e:=run_append_nil (P:=Tryz.prog) w tS ty T i0 zpt ht hi hz ⟨b,0,none⟩ 1 k0 p.cells (by rw [hs];rfl) hnews (by decide) (by decide) (by rw [hby];decide)
   rw [hr] at e
   injection e with e1 e2
   subst e1 e2
   obtain rfl:w.heap.size=g:=by simpa [Value.ownBlock] using hgv
   refine ⟨_,heap_alloc_new w.drew _,?_⟩
   have:=fr (p.cells ++ (Builtin.zeroCells zpt.cells (grownCap w 1 0 T - 1)).toList) (fun u hu=>by
    rcases List.mem_append.1 hu with q | q
    · exact hfree u q
    · exact zero_free _ u q)
   intro i k x
   have:=this i k x
   rwa [show (p.cells ++ (Builtin.zeroCells zpt.cells (grownCap w 1 0 T - 1)).toList).toArray=p.cells.toArray ++ Builtin.zeroCells zpt.cells (grownCap w 1 0 T - 1) by apply Array.ext';simp] at this
 · obtain ⟨cs,hB⟩:=h.free g0 rfl
   have hcur:∀ u ∈ cur.toList,∀ (k:IntKind) (x:Int),u ≠ .int k x:=by
    have:cs=cur:=by exact (Obj.cells.inj (Option.some.inj (hB.at_.symm.trans hg0))).1
    subst this
    intro u hu k x e
    obtain ⟨j,hj⟩:=List.getElem?_of_mem hu
    rw [Array.getElem?_toList] at hj
    exact hB.free j k x (by rw [← e];exact hj)
   by_cases hroom:L.length+1≤cap
   · have e:=run_append_room (P:=Tryz.prog) w tS ty T i0 ht hi g0 L.length cap cur hg0 ⟨b,0,none⟩ 1 k0 p.cells (by rw [hs];rfl) hnews h1 hroom (by rw [hs,hcs];show L.length*6+6≤_;omega)
     rw [hr] at e
     injection e with e1 e2
     subst e1 e2
     obtain rfl:g0=g:=by simpa [Value.ownBlock] using hgv
     refine ⟨_,setRow_heap w g0 cur _ T _ hg0,fr _ fun u hu=>?_⟩
     rcases List.mem_append.1 hu with q | q
     · rcases List.mem_append.1 q with q | q
       · exact hcur u (List.mem_of_mem_take q)
       · exact hfree u q
     · exact hcur u (List.mem_of_mem_drop q)
   · have holds:∀ j u,(pvs L)[j]?=some u→w.cell? ((⟨g0,0,none⟩:Addr).add j)=some u:=h.own.cells (g:=g0) rfl
     have e:=run_append_grow (P:=Tryz.prog) w tS ty T i0 zpt ht hi hz ⟨g0,0,none⟩ L.length cap (pvs L) (by rw [hs];exact h.own.1) holds ⟨b,0,none⟩ 1 k0 p.cells (by rw [hs];rfl) hnews (by omega) (by omega) (growslice_fits (by omega) (by rw [hby];omega))
     rw [hr] at e
     injection e with e1 e2
     subst e1 e2
     obtain rfl:w.heap.size=g:=by simpa [Value.ownBlock] using hgv
     refine ⟨_,heap_alloc_new w.drew _,?_⟩
     have:=fr (pvs L ++ p.cells ++ (Builtin.zeroCells zpt.cells (grownCap w (L.length+1) cap T - (L.length+1))).toList) (fun u hu=>by
      rcases List.mem_append.1 hu with q | q
      · rcases List.mem_append.1 q with q | q
        · exact pvs_free L u q
        · exact hfree u q
      · exact zero_free _ u q)
     intro i k x
     have:=this i k x
     rwa [show (pvs L ++ p.cells ++ (Builtin.zeroCells zpt.cells (grownCap w (L.length+1) cap T - (L.length+1))).toList).toArray=(pvs L).toArray ++ p.cells.toArray ++ Builtin.zeroCells zpt.cells (grownCap w (L.length+1) cap T - (L.length+1)) by apply Array.ext';simp] at this
theorem Ln.stays {T:TypeId} {base:Nat} {w w':World} {v:Value} {L:List PV} (h:Ln T base w v L) (hg:w.grownBy w' v.ownBlock):Below w.heap.size w w' ∨ ∃ g cs,BoxAt T w g cs∧base≤g∧Only g w w':=by
 cases hv:v.ownBlock with
 | none =>
   rw [hv] at hg
   exact .inl ((Below.refl _ _).grown hg (Nat.le_refl _) (fun k e=>by cases e))
 | some g =>
   rw [hv] at hg
   obtain ⟨cs,hc⟩:=h.free g hv
   refine .inr ⟨g,cs,hc,(h.own.lt g hv).1,⟨hg.os,hg.tape,hg.output,hg.size,fun k hk hn=>hg.block k hk (fun e=>hn (by injection e))⟩⟩
theorem idx_pt {g n c i:Nat} (h:i < n) (w:World):(Instr.indexAt 64 (.slice (some ⟨g,0,none⟩) n c) (.int .i64 (i:Int))).run Tryz.prog w=.ok (.pointer (some ⟨g,i*6,none⟩)) w:=by
 have ha:∀ j,(⟨g,0,none⟩:Addr).add j=⟨g,j,none⟩:=fun j=>by unfold Addr.add;split <;> simp_all
 obtain ⟨i0,hi,hz,hs,hby⟩:=info_parts info_pt
 have h1:(0:Int)≤(i:Int):=by omega
 have h2:(i:Int) < (n:Int):=by omega
 simp [Instr.indexAt,asIntOf,run_underlying Tryz.underlying64,h1,sizeOf,typeInfo,hi,hs,ha]
 exact fun e=>absurd h (by omega)
end
end Go.Proofs.YtmgklaklnaihpaaGreat
