/- FlatMore: part 15. -/
import Derived.Lib.SmallJoins
import Derived.OpenShut
import Derived.Test.YtlpogecpdfdggaaGreatKFlatMore0
import Derived.Test.YtlpogecpdfdggaaGreatKFlatMore11
import Derived.Test.YtlpogecpdfdggaaGreatKFlatMore13
import Derived.Test.YtlpogecpdfdggaaGreatKFlatMore14
set_option linter.unusedVariables false
set_option maxRecDepth 100000
set_option maxHeartbeats 16000000
variable {w:Go.World}
namespace Go.Proofs.YtlpogecpdfdggaaGreat
section
open Go Go.RowKit
attribute [local go_sem ↓] open_LVH open_STH open_LVJ open_STJ
theorem tol_nn (q:Nat) (h:q < 20):0≤Rat.divInt (q:Int) 4:=by
 have key:∀ i:Fin 20,0≤Rat.divInt (i.val:Int) 4:=by decide +kernel
 exact key ⟨q,h⟩
theorem tol_more {g t:Rat} (h0:0≤t) (h:g≤t*t):0≤t+Rat.divInt 1 9∧g≤(t+Rat.divInt 1 9)*(t+Rat.divInt 1 9):=by
 have e:0≤Rat.divInt 1 9:=by decide +kernel
 generalize Rat.divInt 1 9=d at *
 have h1:=Rat.mul_nonneg h0 e;have h2:=Rat.mul_nonneg e e
 exact ⟨by grind,by grind⟩
theorem gap_line {V:List AH} (h:V.length=2):gapQ V=0:=by
 rw [← gap_mid (by omega),midQ,h]
 rfl
theorem far_ab (a b:AH):sgnQ (segQ a.px a.py a.px a.py b.px b.py)=0:=by
 have h:segQ a.px a.py a.px a.py b.px b.py=0:=far_a a b
 rw [h];rfl
theorem fmore_f {A:Option Addr} {n c k8:Nat} {L:List HV} (hL:SV w A (hvs L)) (hn:L.length=n) (hm:n≤maxLen) (hf:¬ ((∀ p ∈ L,p.small 4)∧n≤6)) :
 Calls Tryz.prog 5 #[.slice A n c,.int .u8 (k8:Int)] w fun e w'=>e=.returned (.bool true)∧Below w.heap.size w w':=by
 have HF:=Lib.hid hf;clear hf
 have hb:Below w.heap.size w w:=Below.refl _ _
 have HN:=Lib.hid hn;clear hn
 go_enter Tryz.func5,Tryz.ntmps5
 go_wp2_with (first
  | (go_at_call 6;(with_reducible refine (fair13_f hL HN.out hm HF.out).mono ?_);rintro e w_z ⟨rfl,hh⟩
     replace hb:=bend hb hh)
  | (go_at_call 8;(with_reducible refine (wakes15_any _).mono ?_);rintro e w_z ⟨rfl,hh⟩
     replace hb:=bend hb hh))
 (try rw [Exit.noGoto_ret])
 go_ret;exact ⟨rfl,hb⟩
theorem fmore_g {A:Option Addr} {n c k8:Nat} {L:List HV} {V:List AH} (hL:SV w A (hvs L)) (hn:L.length=n) (hE:EachH HR w L V 4) (hs:(∀ p ∈ L,p.small 4)∧n≤6) (hg:¬ GoodH V) :
 Calls Tryz.prog 5 #[.slice A n c,.int .u8 (k8:Int)] w fun e w'=>e=.returned (.bool true)∧Below w.heap.size w w':=by
 have HG:=Lib.hid hg;clear hg;have HF:=Lib.hid hs
 have hm:n≤maxLen:=by unfold maxLen;omega
 have hn9:n≤1000:=by omega
 have HVn:Hid (V.length=n):=hE.1.symm.trans hn
 clear hs
 have hb:Below w.heap.size w w:=Below.refl _ _
 have HN:=Lib.hid hn;clear hn
 go_enter Tryz.func5,Tryz.ntmps5
 go_wp2_with (first
  | (go_at_call 6;(with_reducible refine (fair13_t hL HN.out hm HF.out).mono ?_);rintro e w_z ⟨rfl,hh⟩
     (try replace hL:=hL.below hh);replace hb:=bend hb hh;replace hE:=EachH.belowR hE hh)
  | (go_at_call 9;(with_reducible refine (rins13 hL hE HN.out hn9 (by decide) (by decide)).mono ?_);rintro e w_i ⟨v1,M1,rfl,l1,e1,hh⟩
     (try replace hL:=hL.below hh);replace hb:=bend hb hh;replace hE:=EachH.belowR hE hh
     obtain ⟨A_x,c_x,rfl,_,_⟩:=l1.form
     have hM1:M1.length=n:=e1.1.trans HVn.out
     rw [hM1] at l1 ⊢
     have LM1:=l1.sv)
  | (go_at_call 14;(with_reducible refine (rgood13_f LM1 e1 hM1 hn9 HG.out).mono ?_);rintro e w_z ⟨rfl,hh⟩
     (try replace hL:=hL.below hh);replace hb:=bend hb hh;replace hE:=EachH.belowR hE hh;clear e1 l1 LM1)
  | (go_at_call 8;(with_reducible refine (wakes15_any _).mono ?_);rintro e w_z ⟨rfl,hh⟩
     replace hb:=bend hb hh))
 (try rw [Exit.noGoto_ret])
 go_ret;exact ⟨rfl,hb⟩
theorem fmore_2 {A:Option Addr} {n c k8:Nat} {L:List HV} {V:List AH} (hL:SV w A (hvs L)) (hn:L.length=n) (hE:EachH HR w L V 4) (hs:(∀ p ∈ L,p.small 4)∧n≤6) (hk8:k8≤255) (hnc:n≤c) (hg:GoodH V) (hn2:n=2) :
 Calls Tryz.prog 5 #[.slice A n c,.int .u8 (k8:Int)] w fun e w'=>e=.returned (.bool true)∧Below w.heap.size w w':=by
 have HG:=Lib.hid hg
 have hn24:2≤n∧n≤4:=by have:=hg.1;rw [← hE.1,hn] at this;exact this
 obtain ⟨l,hl⟩:∃ l,n=l+1:=⟨n - 1,by omega⟩
 have HNL:=Lib.hid hl
 have hwl:IntKind.i64.wrap ((n:Int) - 1)=(l:Int):=by rw [IntWalk.i64_in _ (by omega)];omega
 clear hl hg
 obtain ⟨q,hq⟩:∃ q,k8 % 20=q:=⟨_,rfl⟩
 have hq20:q < 20:=by omega
 have hmod:(k8:Int).tmod 20=(q:Int):=by rw [Int.tmod_eq_emod_of_nonneg (by omega)];omega
 have hwk:IntKind.i64.wrap (k8:Int)=(k8:Int):=IntWalk.i64_in _ (by omega)
 have hwq:IntKind.i64.wrap (q:Int)=(q:Int):=IntWalk.i64_in _ (by omega)
 obtain ⟨t,ht⟩:∃ t,Rat.divInt (q:Int) 4=t:=⟨_,rfl⟩
 have HT:=Lib.hid ht
 have HT0:Hid (0≤t):=by have:=tol_nn q hq20;rw [ht] at this;exact this
 have hr:gapQ V≤t*t:=by rw [gap_line (by rw [← hE.1,hn,hn2])];exact Rat.mul_nonneg HT0.out HT0.out
 have HR:=Lib.hid hr
 have HNN:Hid (0≤gapQ V):=topQ_nonneg _
 obtain ⟨T,hT,hTd⟩:∃ T,cmpQ (gapQ V) (t*t)=T∧decide (T≤0)=true:=⟨_,rfl,decide_eq_true (cmpQ_le.2 hr)⟩
 have HTC:=Lib.hid hT;have HTD:=Lib.hid hTd
 obtain ⟨S,hS,hSd⟩:∃ S,sgnQ (gapQ V)=S∧decide (S < 0)=false:=⟨_,rfl,decide_eq_false (by have:=sgn_nonneg.2 HNN.out;omega)⟩
 have HSC:=Lib.hid hS;have HSD:=Lib.hid hSd
 have HFA:=Lib.hid (far_ab (fstH V) (lstH V))
 have hn3:((n:Int) == 2)=true:=by rw [hn2];rfl
 have HN3:=Lib.hid hn3;clear ht hr hT hTd hS hSd hn2 hn3 hq;have HF:=Lib.hid hs
 have hm:n≤maxLen:=by unfold maxLen;omega
 have hn9:n≤1000:=by omega
 have HVn:Hid (V.length=n):=hE.1.symm.trans hn
 clear hs
 have hb:Below w.heap.size w w:=Below.refl _ _
 have HN:=Lib.hid hn;clear hn
 go_enter Tryz.func5,Tryz.ntmps5
 go_upto_region 4 with (first
  | (go_at_call 6;(with_reducible refine (fair13_t hL HN.out hm HF.out).mono ?_);rintro e w_z ⟨rfl,hh⟩
     (try replace hL:=hL.below hh);replace hb:=bend hb hh;replace hE:=EachH.belowR hE hh)
  | (go_at_call 9;(with_reducible refine (rins13 hL hE HN.out hn9 (by decide) (by decide)).mono ?_);rintro e w_i ⟨v1,M1,rfl,l1,e1,hh⟩
     (try replace hL:=hL.below hh);replace hb:=bend hb hh;replace hE:=EachH.belowR hE hh
     obtain ⟨A_x,c_x,rfl,_,_⟩:=l1.form
     have hM1:M1.length=n:=e1.1.trans HVn.out
     rw [hM1] at l1 ⊢
     have LM1:=l1.sv)
  | (go_at_call 14;(with_reducible refine (rgood13_t LM1 e1 hM1 hn9 HG.out).mono ?_);rintro e w_z ⟨rfl,hh⟩
     (try replace hL:=hL.below hh);replace hb:=bend hb hh;replace hE:=EachH.belowR hE hh;clear e1 l1 LM1)
  | (go_at_call 18;(with_reducible refine (rof_q (q:Int) 4 (by omega) (by omega) (by decide) (by decide) (by decide) _).mono ?_);rintro e w_h ⟨s_h,A_h,n_h,c_h,B_h,m_h,d_h,rfl,h,hh⟩
     (try replace hL:=hL.below hh);replace hb:=bend hb hh;replace hE:=EachH.belowR hE hh;rw [HT.out] at h))
 have XH:=B3.new' w_h (Value.bool s_h) (Value.slice A_h n_h c_h) (Value.slice B_h m_h d_h) w_h.heap.size rfl
 have hh:Below w_h.heap.size w_h (w_h.alloc (Obj.cells #[Value.bool s_h,Value.slice A_h n_h c_h,Value.slice B_h m_h d_h] 27)):=(Below.refl w_h.heap.size w_h).alloc (Nat.le_refl _) _
 generalize (w_h.alloc (Obj.cells #[Value.bool s_h,Value.slice A_h n_h c_h,Value.slice B_h m_h d_h] 27))=W1 at *
 replace hL:=hL.below hh;replace h:=h.below hh;replace hE:=EachH.belowR hE hh;replace hb:=bend hb hh;clear hh
 generalize w_h.heap.size=gH at *
 obtain ⟨xh0,xh1,xh2⟩:=XH.all
 go_upto_region 5 with (first
  | (go_at_call 11;(with_reducible refine (fis_any hL hE HN.out h.qr (by decide) (by decide) (by decide) (by decide) hnc true ⟨fun _=>⟨HG.out,HT0.out,HR.out⟩,fun _=>rfl⟩).mono ?_);rintro e w_z ⟨rfl,hh⟩
     (try replace hL:=hL.below hh);(try replace h:=h.below hh);(try replace XH:=XH.below hh);replace hb:=bend hb hh;replace hE:=EachH.belowR hE hh))
 clear xh0 xh1 xh2
 replace hL:=hL.below (Below.refl _ _).drew
 replace h:=h.below (Below.refl _ _).drew
 replace XH:=XH.below (Below.refl _ _).drew
 replace hb:=hb.drew
 replace hE:=EachH.belowR hE (Below.refl _ _).drew
 refine wp_region_held_drew (S:=(fun w'=>w'.cell? ⟨gH,0,none⟩=some (.bool s_h)∧w'.cell? ⟨gH,1,none⟩=some (.slice A_h n_h c_h)∧w'.cell? ⟨gH,2,none⟩=some (.slice B_h m_h d_h))) (by kernel_rfl) (by with_reducible exact ⟨XH.c0,XH.c1,XH.c2⟩) (fun hHeld=>?_)
 refine wpAnyH_take (i:=0) (oi:=⟨some 30,.move (.tmp 0),22, "law.go:64",#[],none⟩) (v:=?_) rfl (by kernel_rfl) (by kernel_rfl) (by kernel_rfl) (fun _ _ _ h=>h) (Or.inl ⟨by rfl,?_⟩) hHeld ?_
 rotate_left
 · (intro w hSw;(try dsimp only at hSw);go_simp;try with_reducible rfl)
 simp only [Act.put,List.setIfInBounds_toArray,List.set_cons_zero,List.set_cons_succ]
 refine wpAnyH_take (i:=1) (oi:=⟨some 31,.call ⟨.builtin Builtin.len,#[.tmp 30],#[22]⟩,3, "law.go:64",#[⟨0,.data⟩],none⟩) (v:=?_) rfl (by kernel_rfl) (by kernel_rfl) (by kernel_rfl) (fun _ _ _ h=>h) (Or.inl ⟨by rfl,?_⟩) hHeld ?_
 rotate_left
 · (intro w hSw;(try dsimp only at hSw);go_simp;try with_reducible rfl)
 simp only [Act.put,List.setIfInBounds_toArray,List.set_cons_zero,List.set_cons_succ]
 refine wpAnyH_take (i:=2) (oi:=⟨some 32,.binOp BinOp.eql 3 (.tmp 31) (.const (Value.int IntKind.i64 2)) 3,4, "law.go:64",#[⟨1,.data⟩],none⟩) (v:=?_) rfl (by kernel_rfl) (by kernel_rfl) (by kernel_rfl) (fun _ _ _ h=>h) (Or.inl ⟨by rfl,?_⟩) hHeld ?_
 rotate_left
 · (intro w hSw;(try dsimp only at hSw);go_simp;try with_reducible rfl)
 simp only [Act.put,List.setIfInBounds_toArray,List.set_cons_zero,List.set_cons_succ]
 simp only [HN3.out]
 refine wpAnyH_take (i:=3) (oi:=⟨some 33,.move (.tmp 32),4, "law.go:64",#[⟨2,.data⟩],none⟩) (v:=?_) rfl (by kernel_rfl) (by kernel_rfl) (by kernel_rfl) (fun _ _ _ h=>h) (Or.inl ⟨by rfl,?_⟩) hHeld ?_
 rotate_left
 · (intro w hSw;(try dsimp only at hSw);go_simp;try with_reducible rfl)
 simp only [Act.put,List.setIfInBounds_toArray,List.set_cons_zero,List.set_cons_succ]
 refine wpAnyH_take (i:=4) (oi:=⟨some 34,.move (.tmp 6),4, "law.go:64",#[⟨3,.guard⟩],some (3,true)⟩) (v:=?_) rfl (by kernel_rfl) (by kernel_rfl) (by kernel_rfl) (fun _ _ _ h=>h) (Or.inl ⟨by rfl,?_⟩) hHeld ?_
 rotate_left
 · (intro w hSw;(try dsimp only at hSw);go_simp;try with_reducible rfl)
 simp only [Act.put,List.setIfInBounds_toArray,List.set_cons_zero,List.set_cons_succ]
 refine wpAnyH_take (i:=5) (oi:=⟨some 35,.unOp UnOp.not 4 (.tmp 34),4, "law.go:64",#[⟨4,.data⟩,⟨3,.guard⟩],some (3,true)⟩) (v:=?_) rfl (by kernel_rfl) (by kernel_rfl) (by kernel_rfl) (fun _ _ _ h=>h) (Or.inl ⟨by rfl,?_⟩) hHeld ?_
 rotate_left
 · (intro w hSw;(try dsimp only at hSw);go_simp;try with_reducible rfl)
 simp only [Act.put,List.setIfInBounds_toArray,List.set_cons_zero,List.set_cons_succ]
 refine wpAnyH_take (i:=6) (oi:=⟨some 36,.pick (.tmp 33) (.tmp 35) (.const (Value.bool false)),4, "law.go:64",#[⟨3,.data⟩,⟨5,.data⟩],none⟩) (v:=?_) rfl (by kernel_rfl) (by kernel_rfl) (by kernel_rfl) (fun _ _ _ h=>h) (Or.inl ⟨by rfl,?_⟩) hHeld ?_
 rotate_left
 · (intro w hSw;(try dsimp only at hSw);go_simp;try with_reducible rfl)
 simp only [Act.put,List.setIfInBounds_toArray,List.set_cons_zero,List.set_cons_succ]
 refine wpAnyH_take (i:=7) (oi:=⟨some 37,.move (.tmp 36),4, "law.go:64",#[⟨6,.data⟩,⟨3,.chain⟩],none⟩) (v:=?_) rfl (by kernel_rfl) (by kernel_rfl) (by kernel_rfl) (fun _ _ _ h=>h) (Or.inl ⟨by rfl,?_⟩) hHeld ?_
 rotate_left
 · (intro w hSw;(try dsimp only at hSw);go_simp;try with_reducible rfl)
 simp only [Act.put,List.setIfInBounds_toArray,List.set_cons_zero,List.set_cons_succ]
 refine wpAnyH_take (i:=8) (oi:=⟨some 38,.move (.tmp 6),4, "law.go:64",#[⟨7,.guard⟩],some (7,false)⟩) (v:=?_) rfl (by kernel_rfl) (by kernel_rfl) (by kernel_rfl) (fun _ _ _ h=>h) (Or.inl ⟨by rfl,?_⟩) hHeld ?_
 rotate_left
 · (intro w hSw;(try dsimp only at hSw);go_simp;try with_reducible rfl)
 simp only [Act.put,List.setIfInBounds_toArray,List.set_cons_zero,List.set_cons_succ]
 refine wpAnyH_take (i:=9) (oi:=⟨some 39,.move (.tmp 38),4, "law.go:64",#[⟨8,.data⟩,⟨7,.chain⟩,⟨7,.guard⟩],some (7,false)⟩) (v:=?_) rfl (by kernel_rfl) (by kernel_rfl) (by kernel_rfl) (fun _ _ _ h=>h) (Or.inl ⟨by rfl,?_⟩) hHeld ?_
 rotate_left
 · (intro w hSw;(try dsimp only at hSw);go_simp;try with_reducible rfl)
 simp only [Act.put,List.setIfInBounds_toArray,List.set_cons_zero,List.set_cons_succ]
 refine wpAnyH_take (i:=10) (oi:=⟨some 40,.move (.tmp 0),22, "law.go:64",#[⟨9,.guard⟩],some (9,true)⟩) (v:=?_) rfl (by kernel_rfl) (by kernel_rfl) (by kernel_rfl) (fun _ _ _ h=>h) (Or.inl ⟨by rfl,?_⟩) hHeld ?_
 rotate_left
 · (intro w hSw;(try dsimp only at hSw);go_simp;try with_reducible rfl)
 simp only [Act.put,List.setIfInBounds_toArray,List.set_cons_zero,List.set_cons_succ]
 refine wpAnyH_take (i:=11) (oi:=⟨some 41,.load 27 (.tmp 5),27, "law.go:64",#[⟨9,.guard⟩],some (9,true)⟩) (v:=?_) rfl (by kernel_rfl) (by kernel_rfl) (by kernel_rfl) (fun _ _ _ h=>h) (Or.inl ⟨by rfl,?_⟩) hHeld ?_
 rotate_left
 · (intro w hSw;(try dsimp only at hSw);go_simp;try with_reducible rfl)
 simp only [Act.put,List.setIfInBounds_toArray,List.set_cons_zero,List.set_cons_succ]
 refine wpAnyH_ready (rs:=[12]) (by kernel_rfl) (by simp) ?_
 refine AllReadyH.cons (o:=⟨some 42,.call ⟨.value (.func 18),#[.const (Value.int IntKind.i64 1),.const (Value.int IntKind.i64 9)],#[2,2]⟩,27, "law.go:64",#[⟨9,.chain⟩,⟨9,.guard⟩],some (9,true)⟩) rfl (fun K1 hK1=>?_) AllReadyH.nil
 go_simp
 first
 | (go_at_call 18;(with_reducible refine (rof_q 1 9 (by decide) (by decide) (by decide) (by decide) (by decide) _).mono ?_);rintro e w_i ⟨s_i,A_i,n_i,c_i,B_i,m_i,d_i,rfl,i,hh⟩
    (try replace hL:=hL.below hh);(try replace h:=h.below hh);(try replace XH:=XH.below hh);replace hb:=bend hb hh;replace hE:=EachH.belowR hE hh)
 refine hK1.out _ _ (by with_reducible exact ⟨XH.c0,XH.c1,XH.c2⟩) (fun hHeld=>?_)
 clear hK1 K1
 refine wpAnyH_ready (rs:=[13]) (by kernel_rfl) (by simp) ?_
 refine AllReadyH.cons (o:=⟨some 43,.call ⟨.value (.func 22),#[.tmp 41,.tmp 42],#[27,27]⟩,27, "law.go:64",#[⟨11,.data⟩,⟨12,.data⟩,⟨12,.chain⟩,⟨9,.guard⟩],some (9,true)⟩) rfl (fun K1 hK1=>?_) AllReadyH.nil
 go_simp
 first
 | (go_at_call 22;(with_reducible refine (radd_q h.qr i.qr (by decide) (by decide) (.inl (by decide)) (by decide) (by decide)).mono ?_);rintro e w_j ⟨s_j,A_j,n_j,c_j,B_j,m_j,d_j,rfl,j,hh⟩
    (try replace hL:=hL.below hh);(try replace h:=h.below hh);(try replace XH:=XH.below hh);replace hb:=bend hb hh;replace hE:=EachH.belowR hE hh)
 refine hK1.out _ _ (by with_reducible exact ⟨XH.c0,XH.c1,XH.c2⟩) (fun hHeld=>?_)
 clear hK1 K1
 refine wpAnyH_ready (rs:=[14]) (by kernel_rfl) (by simp) ?_
 refine AllReadyH.cons (o:=⟨some 44,.call ⟨.value (.func 11),#[.tmp 40,.tmp 43],#[22,27]⟩,4, "law.go:64",#[⟨10,.data⟩,⟨13,.data⟩,⟨13,.chain⟩,⟨9,.guard⟩],some (9,true)⟩) rfl (fun K1 hK1=>?_) AllReadyH.nil
 go_simp
 first
 | (go_at_call 11;(with_reducible refine (fis_any hL hE HN.out j.qr (by decide) (by decide) (by decide) (by decide) hnc true ⟨fun _=>⟨HG.out,tol_more HT0.out HR.out⟩,fun _=>rfl⟩).mono ?_);rintro e w_z ⟨rfl,hh⟩
    (try replace hL:=hL.below hh);(try replace h:=h.below hh);(try replace XH:=XH.below hh);replace hb:=bend hb hh;replace hE:=EachH.belowR hE hh)
 refine hK1.out _ _ (by with_reducible exact ⟨XH.c0,XH.c1,XH.c2⟩) (fun hHeld=>?_)
 clear hK1 K1
 refine wpAnyH_take (i:=15) (oi:=⟨some 45,.unOp UnOp.not 4 (.tmp 44),4, "law.go:64",#[⟨14,.data⟩,⟨9,.guard⟩],some (9,true)⟩) (v:=?_) rfl (by kernel_rfl) (by kernel_rfl) (by kernel_rfl) (fun _ _ _ h=>h) (Or.inl ⟨by rfl,?_⟩) hHeld ?_
 rotate_left
 · (intro w hSw;(try dsimp only at hSw);go_simp;try with_reducible rfl)
 simp only [Act.put,List.setIfInBounds_toArray,List.set_cons_zero,List.set_cons_succ]
 refine wpAnyH_take (i:=16) (oi:=⟨some 46,.pick (.tmp 39) (.tmp 45) (.const (Value.bool false)),4, "law.go:64",#[⟨9,.data⟩,⟨15,.data⟩,⟨7,.guard⟩],some (7,false)⟩) (v:=?_) rfl (by kernel_rfl) (by kernel_rfl) (by kernel_rfl) (fun _ _ _ h=>h) (Or.inl ⟨by rfl,?_⟩) hHeld ?_
 rotate_left
 · (intro w hSw;(try dsimp only at hSw);go_simp;try with_reducible rfl)
 simp only [Act.put,List.setIfInBounds_toArray,List.set_cons_zero,List.set_cons_succ]
 refine wpAnyH_take (i:=17) (oi:=⟨some 47,.pick (.tmp 37) (.const (Value.bool true)) (.tmp 46),4, "law.go:64",#[⟨7,.data⟩,⟨16,.data⟩],none⟩) (v:=?_) rfl (by kernel_rfl) (by kernel_rfl) (by kernel_rfl) (fun _ _ _ h=>h) (Or.inl ⟨by rfl,?_⟩) hHeld ?_
 rotate_left
 · (intro w hSw;(try dsimp only at hSw);go_simp;try with_reducible rfl)
 simp only [Act.put,List.setIfInBounds_toArray,List.set_cons_zero,List.set_cons_succ]
 refine wpAnyH_done (by kernel_rfl) ?_ _
 clear hHeld
 try clear i j
 go_upto_region 8 with (first
  | (go_at_call 10;(with_reducible refine (fgap_ok hL hE HN.out hnc (by decide) (by decide) HG.out).mono ?_);rintro e w_g ⟨s_g,A_g,n_g,c_g,B_g,m_g,d_g,rfl,g,hh⟩
     (try replace hL:=hL.below hh);(try replace h:=h.below hh);(try replace XH:=XH.below hh);replace hb:=bend hb hh;replace hE:=EachH.belowR hE hh))
 have XG:=B3.new' w_g (Value.bool s_g) (Value.slice A_g n_g c_g) (Value.slice B_g m_g d_g) w_g.heap.size rfl
 have hh:Below w_g.heap.size w_g (w_g.alloc (Obj.cells #[Value.bool s_g,Value.slice A_g n_g c_g,Value.slice B_g m_g d_g] 27)):=(Below.refl w_g.heap.size w_g).alloc (Nat.le_refl _) _
 generalize (w_g.alloc (Obj.cells #[Value.bool s_g,Value.slice A_g n_g c_g,Value.slice B_g m_g d_g] 27))=W2 at *
 replace hL:=hL.below hh;replace h:=h.below hh;replace XH:=XH.below hh;replace g:=g.below hh;replace hE:=EachH.belowR hE hh;replace hb:=bend hb hh;clear hh
 generalize w_g.heap.size=gG at *
 replace hL:=hL.below (Below.refl _ _).drew
 replace h:=h.below (Below.refl _ _).drew
 replace XH:=XH.below (Below.refl _ _).drew
 replace g:=g.below (Below.refl _ _).drew
 replace XG:=XG.below (Below.refl _ _).drew
 replace hb:=hb.drew
 replace hE:=EachH.belowR hE (Below.refl _ _).drew
 refine wp_region_held_drew (S:=(fun w'=>w'.cell? ⟨gG,0,none⟩=some (.bool s_g)∧w'.cell? ⟨gG,1,none⟩=some (.slice A_g n_g c_g)∧w'.cell? ⟨gG,2,none⟩=some (.slice B_g m_g d_g)∧w'.cell? ⟨gH,0,none⟩=some (.bool s_h)∧w'.cell? ⟨gH,1,none⟩=some (.slice A_h n_h c_h)∧w'.cell? ⟨gH,2,none⟩=some (.slice B_h m_h d_h))) (by kernel_rfl) (by with_reducible exact ⟨XG.c0,XG.c1,XG.c2,XH.c0,XH.c1,XH.c2⟩) (fun hHeld=>?_)
 refine wpAnyH_take (i:=0) (oi:=⟨some 53,.move (.tmp 8),33, "law.go:68",#[],none⟩) (v:=?_) rfl (by kernel_rfl) (by kernel_rfl) (by kernel_rfl) (fun _ _ _ h=>h) (Or.inl ⟨by rfl,?_⟩) hHeld ?_
 rotate_left
 · (intro w hSw;(try dsimp only at hSw);go_simp;try with_reducible rfl)
 simp only [Act.put,List.setIfInBounds_toArray,List.set_cons_zero,List.set_cons_succ]
 refine wpAnyH_take (i:=1) (oi:=⟨some 54,.binOp BinOp.neq 33 (.tmp 53) (.const (Value.int IntKind.i64 0)) 33,4, "law.go:68",#[⟨0,.data⟩],none⟩) (v:=?_) rfl (by kernel_rfl) (by kernel_rfl) (by kernel_rfl) (fun _ _ _ h=>h) (Or.inl ⟨by rfl,?_⟩) hHeld ?_
 rotate_left
 · (intro w hSw;(try dsimp only at hSw);go_simp;try with_reducible rfl)
 simp only [Act.put,List.setIfInBounds_toArray,List.set_cons_zero,List.set_cons_succ]
 refine wpAnyH_take (i:=2) (oi:=⟨some 55,.move (.tmp 54),4, "law.go:68",#[⟨1,.data⟩],none⟩) (v:=?_) rfl (by kernel_rfl) (by kernel_rfl) (by kernel_rfl) (fun _ _ _ h=>h) (Or.inl ⟨by rfl,?_⟩) hHeld ?_
 rotate_left
 · (intro w hSw;(try dsimp only at hSw);go_simp;try with_reducible rfl)
 simp only [Act.put,List.setIfInBounds_toArray,List.set_cons_zero,List.set_cons_succ]
 refine wpAnyH_take (i:=3) (oi:=⟨some 56,.move (.tmp 6),4, "law.go:68",#[⟨2,.guard⟩],some (2,false)⟩) (v:=?_) rfl (by kernel_rfl) (by kernel_rfl) (by kernel_rfl) (fun _ _ _ h=>h) (Or.inl ⟨by rfl,?_⟩) hHeld ?_
 rotate_left
 · (intro w hSw;(try dsimp only at hSw);go_simp;try with_reducible rfl)
 simp only [Act.put,List.setIfInBounds_toArray,List.set_cons_zero,List.set_cons_succ]
 refine wpAnyH_take (i:=4) (oi:=⟨some 57,.load 27 (.tmp 7),27, "law.go:68",#[⟨2,.guard⟩],some (2,false)⟩) (v:=?_) rfl (by kernel_rfl) (by kernel_rfl) (by kernel_rfl) (fun _ _ _ h=>h) (Or.inl ⟨by rfl,?_⟩) hHeld ?_
 rotate_left
 · (intro w hSw;(try dsimp only at hSw);go_simp;try with_reducible rfl)
 simp only [Act.put,List.setIfInBounds_toArray,List.set_cons_zero,List.set_cons_succ]
 refine wpAnyH_take (i:=5) (oi:=⟨some 58,.load 27 (.tmp 5),27, "law.go:68",#[⟨2,.guard⟩],some (2,false)⟩) (v:=?_) rfl (by kernel_rfl) (by kernel_rfl) (by kernel_rfl) (fun _ _ _ h=>h) (Or.inl ⟨by rfl,?_⟩) hHeld ?_
 rotate_left
 · (intro w hSw;(try dsimp only at hSw);go_simp;try with_reducible rfl)
 simp only [Act.put,List.setIfInBounds_toArray,List.set_cons_zero,List.set_cons_succ]
 refine wpAnyH_take (i:=6) (oi:=⟨some 59,.load 27 (.tmp 5),27, "law.go:68",#[⟨2,.guard⟩],some (2,false)⟩) (v:=?_) rfl (by kernel_rfl) (by kernel_rfl) (by kernel_rfl) (fun _ _ _ h=>h) (Or.inl ⟨by rfl,?_⟩) hHeld ?_
 rotate_left
 · (intro w hSw;(try dsimp only at hSw);go_simp;try with_reducible rfl)
 simp only [Act.put,List.setIfInBounds_toArray,List.set_cons_zero,List.set_cons_succ]
 refine wpAnyH_ready (rs:=[7]) (by kernel_rfl) (by simp) ?_
 refine AllReadyH.cons (o:=⟨some 60,.call ⟨.value (.func 23),#[.tmp 58,.tmp 59],#[27,27]⟩,27, "law.go:68",#[⟨5,.data⟩,⟨6,.data⟩,⟨2,.chain⟩,⟨2,.guard⟩],some (2,false)⟩) rfl (fun K1 hK1=>?_) AllReadyH.nil
 go_simp
 first
 | (go_at_call 23;(with_reducible refine (rmul_q h.qr h.qr (by decide) (by decide) (.inl (by decide)) (by decide) (by decide)).mono ?_);rintro e w_m ⟨s_m,A_m,n_m,c_m,B_m,m_m,d_m,rfl,m,hh⟩
    (try replace hL:=hL.below hh);(try replace h:=h.below hh);(try replace XH:=XH.below hh);(try replace g:=g.below hh);(try replace XG:=XG.below hh);replace hb:=bend hb hh;replace hE:=EachH.belowR hE hh)
 refine hK1.out _ _ (by with_reducible exact ⟨XG.c0,XG.c1,XG.c2,XH.c0,XH.c1,XH.c2⟩) (fun hHeld=>?_)
 clear hK1 K1
 refine wpAnyH_ready (rs:=[8]) (by kernel_rfl) (by simp) ?_
 refine AllReadyH.cons (o:=⟨some 61,.call ⟨.value (.func 20),#[.tmp 57,.tmp 60],#[27,27]⟩,3, "law.go:68",#[⟨4,.data⟩,⟨7,.data⟩,⟨7,.chain⟩,⟨2,.guard⟩],some (2,false)⟩) rfl (fun K1 hK1=>?_) AllReadyH.nil
 go_simp
 first
 | (go_at_call 20;(with_reducible refine (rcmp_q g.qr m.qr (by decide) (by decide) (.inl (by decide)) (by decide) (by decide)).mono ?_);rintro e w_z ⟨rfl,hh⟩
    rw [HTC.out];(try replace hL:=hL.below hh);(try replace h:=h.below hh);(try replace XH:=XH.below hh);(try replace g:=g.below hh);(try replace XG:=XG.below hh);replace hb:=bend hb hh;replace hE:=EachH.belowR hE hh)
 refine hK1.out _ _ (by with_reducible exact ⟨XG.c0,XG.c1,XG.c2,XH.c0,XH.c1,XH.c2⟩) (fun hHeld=>?_)
 clear hK1 K1
 refine wpAnyH_take (i:=9) (oi:=⟨some 62,.binOp BinOp.leq 3 (.tmp 61) (.const (Value.int IntKind.i64 0)) 3,4, "law.go:68",#[⟨8,.data⟩,⟨2,.guard⟩],some (2,false)⟩) (v:=?_) rfl (by kernel_rfl) (by kernel_rfl) (by kernel_rfl) (fun _ _ _ h=>h) (Or.inl ⟨by rfl,?_⟩) hHeld ?_
 rotate_left
 · (intro w hSw;(try dsimp only at hSw);go_simp;try with_reducible rfl)
 simp only [Act.put,List.setIfInBounds_toArray,List.set_cons_zero,List.set_cons_succ]
 simp only [HTD.out]
 refine wpAnyH_take (i:=10) (oi:=⟨some 63,.binOp BinOp.neq 4 (.tmp 56) (.tmp 62) 4,4, "law.go:68",#[⟨3,.data⟩,⟨9,.data⟩,⟨2,.guard⟩],some (2,false)⟩) (v:=?_) rfl (by kernel_rfl) (by kernel_rfl) (by kernel_rfl) (fun _ _ _ h=>h) (Or.inl ⟨by rfl,?_⟩) hHeld ?_
 rotate_left
 · (intro w hSw;(try dsimp only at hSw);go_simp;try with_reducible rfl)
 simp only [Act.put,List.setIfInBounds_toArray,List.set_cons_zero,List.set_cons_succ]
 refine wpAnyH_take (i:=11) (oi:=⟨some 64,.pick (.tmp 55) (.const (Value.bool true)) (.tmp 63),4, "law.go:68",#[⟨2,.data⟩,⟨10,.data⟩],none⟩) (v:=?_) rfl (by kernel_rfl) (by kernel_rfl) (by kernel_rfl) (fun _ _ _ h=>h) (Or.inl ⟨by rfl,?_⟩) hHeld ?_
 rotate_left
 · (intro w hSw;(try dsimp only at hSw);go_simp;try with_reducible rfl)
 simp only [Act.put,List.setIfInBounds_toArray,List.set_cons_zero,List.set_cons_succ]
 refine wpAnyH_take (i:=12) (oi:=⟨some 65,.move (.tmp 64),4, "law.go:68",#[⟨11,.data⟩,⟨8,.chain⟩],none⟩) (v:=?_) rfl (by kernel_rfl) (by kernel_rfl) (by kernel_rfl) (fun _ _ _ h=>h) (Or.inl ⟨by rfl,?_⟩) hHeld ?_
 rotate_left
 · (intro w hSw;(try dsimp only at hSw);go_simp;try with_reducible rfl)
 simp only [Act.put,List.setIfInBounds_toArray,List.set_cons_zero,List.set_cons_succ]
 refine wpAnyH_take (i:=13) (oi:=⟨some 66,.load 27 (.tmp 7),27, "law.go:68",#[⟨12,.guard⟩],some (12,false)⟩) (v:=?_) rfl (by kernel_rfl) (by kernel_rfl) (by kernel_rfl) (fun _ _ _ h=>h) (Or.inl ⟨by rfl,?_⟩) hHeld ?_
 rotate_left
 · (intro w hSw;(try dsimp only at hSw);go_simp;try with_reducible rfl)
 simp only [Act.put,List.setIfInBounds_toArray,List.set_cons_zero,List.set_cons_succ]
 refine wpAnyH_ready (rs:=[14]) (by kernel_rfl) (by simp) ?_
 refine AllReadyH.cons (o:=⟨some 67,.call ⟨.value (.func 24),#[.tmp 66],#[27]⟩,3, "law.go:68",#[⟨13,.data⟩,⟨12,.chain⟩,⟨12,.guard⟩],some (12,false)⟩) rfl (fun K1 hK1=>?_) AllReadyH.nil
 go_simp
 first
 | (go_at_call 24;(with_reducible refine (rsign_q g.qr (by decide) (by decide)).mono ?_);rintro e w_z ⟨rfl,hh⟩
    rw [HSC.out];(try replace hL:=hL.below hh);(try replace h:=h.below hh);(try replace XH:=XH.below hh);(try replace g:=g.below hh);(try replace XG:=XG.below hh);replace hb:=bend hb hh;replace hE:=EachH.belowR hE hh)
 refine hK1.out _ _ (by with_reducible exact ⟨XG.c0,XG.c1,XG.c2,XH.c0,XH.c1,XH.c2⟩) (fun hHeld=>?_)
 clear hK1 K1
 refine wpAnyH_take (i:=15) (oi:=⟨some 68,.binOp BinOp.lss 3 (.tmp 67) (.const (Value.int IntKind.i64 0)) 3,4, "law.go:68",#[⟨14,.data⟩,⟨12,.guard⟩],some (12,false)⟩) (v:=?_) rfl (by kernel_rfl) (by kernel_rfl) (by kernel_rfl) (fun _ _ _ h=>h) (Or.inl ⟨by rfl,?_⟩) hHeld ?_
 rotate_left
 · (intro w hSw;(try dsimp only at hSw);go_simp;try with_reducible rfl)
 simp only [Act.put,List.setIfInBounds_toArray,List.set_cons_zero,List.set_cons_succ]
 simp only [HSD.out]
 refine wpAnyH_take (i:=16) (oi:=⟨some 69,.pick (.tmp 65) (.const (Value.bool true)) (.tmp 68),4, "law.go:68",#[⟨12,.data⟩,⟨15,.data⟩],none⟩) (v:=?_) rfl (by kernel_rfl) (by kernel_rfl) (by kernel_rfl) (fun _ _ _ h=>h) (Or.inl ⟨by rfl,?_⟩) hHeld ?_
 rotate_left
 · (intro w hSw;(try dsimp only at hSw);go_simp;try with_reducible rfl)
 simp only [Act.put,List.setIfInBounds_toArray,List.set_cons_zero,List.set_cons_succ]
 refine wpAnyH_done (by kernel_rfl) ?_ _
 clear hHeld
 try clear m
 clear g h XG XH
 obtain ⟨P0,y0,hP0,hy0,p0⟩:=hE.at_ (i:=0) (by rw [HN.out];omega)
 obtain rfl:y0=fstH V:=Option.some.inj (hy0.symm.trans (fst_get (by rw [HVn.out];omega)))
 have HW0:Hid ((fstH V).w ≠ 0):=by have:=HG.out.2 _ (List.mem_of_getElem? hy0);show _ ≠ _;grind
 obtain ⟨g0,o0,hix0,E0,_⟩:=hL.ht hP0
 have hixa:∀ w',(Instr.indexAt 22 (.slice A n c) (.int .i64 0)).run Tryz.prog w'=.ok (.pointer (some ⟨g0,o0,none⟩)) w':=fun w'=>hix0 n c w' (by omega)
 have epl:=E0.ldH;clear hP0 hy0 hix0 E0
 go_upto_region 11 with (first
  | (go_at_call 19;(with_reducible refine (cpoint_p p0 (by decide) (by decide) HW0.out).mono ?_);rintro e w_x ⟨s_x,A_x,n_x,c_x,B_x,m_x,d_x,t_x,E_x,i_x,e_x,F_x,j_x,f_x,rfl,x,hh⟩
     (try replace hL:=hL.below hh);replace hb:=bend hb hh;replace hE:=EachH.belowR hE hh))
 clear epl hixa p0
 have XX:=B6.new' w_x (Value.bool s_x) (Value.slice A_x n_x c_x) (Value.slice B_x m_x d_x) (Value.bool t_x) (Value.slice E_x i_x e_x) (Value.slice F_x j_x f_x) w_x.heap.size rfl
 have hh:Below w_x.heap.size w_x (w_x.alloc (Obj.cells #[Value.bool s_x,Value.slice A_x n_x c_x,Value.slice B_x m_x d_x,Value.bool t_x,Value.slice E_x i_x e_x,Value.slice F_x j_x f_x] 49)):=(Below.refl w_x.heap.size w_x).alloc (Nat.le_refl _) _
 generalize (w_x.alloc (Obj.cells #[Value.bool s_x,Value.slice A_x n_x c_x,Value.slice B_x m_x d_x,Value.bool t_x,Value.slice E_x i_x e_x,Value.slice F_x j_x f_x] 49))=W3 at *
 replace hL:=hL.below hh;replace x:=x.below hh;replace hE:=EachH.belowR hE hh;replace hb:=bend hb hh;clear hh
 generalize w_x.heap.size=gX at *
 obtain ⟨P1,y1,hP1,hy1,p1⟩:=hE.at_ (i:=l) (by rw [HN.out];have:=HNL.out;omega)
 obtain rfl:y1=lstH V:=Option.some.inj (hy1.symm.trans (lst_get (by rw [HVn.out];exact HNL.out)))
 have HW1:Hid ((lstH V).w ≠ 0):=by have:=HG.out.2 _ (List.mem_of_getElem? hy1);show _ ≠ _;grind
 obtain ⟨g1,o1,hix1,E1,_⟩:=hL.ht hP1
 have hixb:∀ w',(Instr.indexAt 22 (.slice A n c) (.int .i64 (l:Int))).run Tryz.prog w'=.ok (.pointer (some ⟨g1,o1,none⟩)) w':=fun w'=>hix1 n c w' (by have:=HNL.out;omega)
 have epm:=E1.ldH;clear hP1 hy1 hix1 E1
 go_upto_region 12 with (first
  | (go_at_call 19;(with_reducible refine (cpoint_p p1 (by decide) (by decide) HW1.out).mono ?_);rintro e w_y ⟨s_y,A_y,n_y,c_y,B_y,m_y,d_y,t_y,E_y,i_y,e_y,F_y,j_y,f_y,rfl,y,hh⟩
     (try replace hL:=hL.below hh);(try replace x:=x.below hh);(try replace XX:=XX.below hh);replace hb:=bend hb hh;replace hE:=EachH.belowR hE hh))
 clear epm hixb p1
 have XY:=B6.new' w_y (Value.bool s_y) (Value.slice A_y n_y c_y) (Value.slice B_y m_y d_y) (Value.bool t_y) (Value.slice E_y i_y e_y) (Value.slice F_y j_y f_y) w_y.heap.size rfl
 have hh:Below w_y.heap.size w_y (w_y.alloc (Obj.cells #[Value.bool s_y,Value.slice A_y n_y c_y,Value.slice B_y m_y d_y,Value.bool t_y,Value.slice E_y i_y e_y,Value.slice F_y j_y f_y] 49)):=(Below.refl w_y.heap.size w_y).alloc (Nat.le_refl _) _
 generalize (w_y.alloc (Obj.cells #[Value.bool s_y,Value.slice A_y n_y c_y,Value.slice B_y m_y d_y,Value.bool t_y,Value.slice E_y i_y e_y,Value.slice F_y j_y f_y] 49))=W4 at *
 replace hL:=hL.below hh;replace x:=x.below hh;replace XX:=XX.below hh;replace y:=y.below hh;replace hE:=EachH.belowR hE hh;replace hb:=bend hb hh;clear hh
 generalize w_y.heap.size=gY at *
 obtain ⟨xx0,xx1,xx2,xx3,xx4,xx5⟩:=XX.all;obtain ⟨xy0,xy1,xy2,xy3,xy4,xy5⟩:=XY.all
 go_wp2_with (first
  | (go_at_call 21;(with_reducible refine (ptoseg_p x.pr x.pr y.pr (by decide) (by decide) (by decide) (by decide)).mono ?_);rintro e w_s ⟨s_s,A_s,n_s,c_s,B_s,m_s,d_s,rfl,s,hh⟩
     replace hb:=bend hb hh)
  | (go_at_call 24;(with_reducible refine (rsign_q s.qr (by decide) (by decide)).mono ?_);rintro e w_z ⟨rfl,hh⟩
     rw [HFA.out];replace hb:=bend hb hh)
  | (go_at_call 8;(with_reducible refine (wakes15_any _).mono ?_);rintro e w_z ⟨rfl,hh⟩
     replace hb:=bend hb hh))
 (try rw [Exit.noGoto_ret])
 go_ret;exact ⟨rfl,hb⟩
theorem fmore_t {A:Option Addr} {n c k8:Nat} {L:List HV} {V:List AH} (hL:SV w A (hvs L)) (hn:L.length=n) (hE:EachH HR w L V 4) (hs:(∀ p ∈ L,p.small 4)∧n≤6) (hk8:k8≤255) (hnc:n≤c) (hg:GoodH V) (hn2:n ≠ 2) (hr:gapQ V≤Rat.divInt ((k8 % 20:Nat):Int) 4*Rat.divInt ((k8 % 20:Nat):Int) 4) :
 Calls Tryz.prog 5 #[.slice A n c,.int .u8 (k8:Int)] w fun e w'=>e=.returned (.bool true)∧Below w.heap.size w w':=by
 have HG:=Lib.hid hg
 have hn24:2≤n∧n≤4:=by have:=hg.1;rw [← hE.1,hn] at this;exact this
 obtain ⟨l,hl⟩:∃ l,n=l+1:=⟨n - 1,by omega⟩
 have HNL:=Lib.hid hl
 have hwl:IntKind.i64.wrap ((n:Int) - 1)=(l:Int):=by rw [IntWalk.i64_in _ (by omega)];omega
 clear hl hg
 obtain ⟨q,hq⟩:∃ q,k8 % 20=q:=⟨_,rfl⟩
 rw [hq] at hr
 have hq20:q < 20:=by omega
 have hmod:(k8:Int).tmod 20=(q:Int):=by rw [Int.tmod_eq_emod_of_nonneg (by omega)];omega
 have hwk:IntKind.i64.wrap (k8:Int)=(k8:Int):=IntWalk.i64_in _ (by omega)
 have hwq:IntKind.i64.wrap (q:Int)=(q:Int):=IntWalk.i64_in _ (by omega)
 obtain ⟨t,ht⟩:∃ t,Rat.divInt (q:Int) 4=t:=⟨_,rfl⟩
 have HT:=Lib.hid ht
 have HT0:Hid (0≤t):=by have:=tol_nn q hq20;rw [ht] at this;exact this
 rw [ht] at hr;have HR:=Lib.hid hr
 have HNN:Hid (0≤gapQ V):=topQ_nonneg _
 obtain ⟨T,hT,hTd⟩:∃ T,cmpQ (gapQ V) (t*t)=T∧decide (T≤0)=true:=⟨_,rfl,decide_eq_true (cmpQ_le.2 hr)⟩
 have HTC:=Lib.hid hT;have HTD:=Lib.hid hTd
 obtain ⟨S,hS,hSd⟩:∃ S,sgnQ (gapQ V)=S∧decide (S < 0)=false:=⟨_,rfl,decide_eq_false (by have:=sgn_nonneg.2 HNN.out;omega)⟩
 have HSC:=Lib.hid hS;have HSD:=Lib.hid hSd
 have HFA:=Lib.hid (far_ab (fstH V) (lstH V))
 have hn3:((n:Int) == 2)=false:=by simp;omega
 have HN3:=Lib.hid hn3;clear ht hr hT hTd hS hSd hn2 hn3 hq;have HF:=Lib.hid hs
 have hm:n≤maxLen:=by unfold maxLen;omega
 have hn9:n≤1000:=by omega
 have HVn:Hid (V.length=n):=hE.1.symm.trans hn
 clear hs
 have hb:Below w.heap.size w w:=Below.refl _ _
 have HN:=Lib.hid hn;clear hn
 go_enter Tryz.func5,Tryz.ntmps5
 go_upto_region 4 with (first
  | (go_at_call 6;(with_reducible refine (fair13_t hL HN.out hm HF.out).mono ?_);rintro e w_z ⟨rfl,hh⟩
     (try replace hL:=hL.below hh);replace hb:=bend hb hh;replace hE:=EachH.belowR hE hh)
  | (go_at_call 9;(with_reducible refine (rins13 hL hE HN.out hn9 (by decide) (by decide)).mono ?_);rintro e w_i ⟨v1,M1,rfl,l1,e1,hh⟩
     (try replace hL:=hL.below hh);replace hb:=bend hb hh;replace hE:=EachH.belowR hE hh
     obtain ⟨A_x,c_x,rfl,_,_⟩:=l1.form
     have hM1:M1.length=n:=e1.1.trans HVn.out
     rw [hM1] at l1 ⊢
     have LM1:=l1.sv)
  | (go_at_call 14;(with_reducible refine (rgood13_t LM1 e1 hM1 hn9 HG.out).mono ?_);rintro e w_z ⟨rfl,hh⟩
     (try replace hL:=hL.below hh);replace hb:=bend hb hh;replace hE:=EachH.belowR hE hh;clear e1 l1 LM1)
  | (go_at_call 18;(with_reducible refine (rof_q (q:Int) 4 (by omega) (by omega) (by decide) (by decide) (by decide) _).mono ?_);rintro e w_h ⟨s_h,A_h,n_h,c_h,B_h,m_h,d_h,rfl,h,hh⟩
     (try replace hL:=hL.below hh);replace hb:=bend hb hh;replace hE:=EachH.belowR hE hh;rw [HT.out] at h))
 have XH:=B3.new' w_h (Value.bool s_h) (Value.slice A_h n_h c_h) (Value.slice B_h m_h d_h) w_h.heap.size rfl
 have hh:Below w_h.heap.size w_h (w_h.alloc (Obj.cells #[Value.bool s_h,Value.slice A_h n_h c_h,Value.slice B_h m_h d_h] 27)):=(Below.refl w_h.heap.size w_h).alloc (Nat.le_refl _) _
 generalize (w_h.alloc (Obj.cells #[Value.bool s_h,Value.slice A_h n_h c_h,Value.slice B_h m_h d_h] 27))=W1 at *
 replace hL:=hL.below hh;replace h:=h.below hh;replace hE:=EachH.belowR hE hh;replace hb:=bend hb hh;clear hh
 generalize w_h.heap.size=gH at *
 obtain ⟨xh0,xh1,xh2⟩:=XH.all
 go_upto_region 5 with (first
  | (go_at_call 11;(with_reducible refine (fis_any hL hE HN.out h.qr (by decide) (by decide) (by decide) (by decide) hnc true ⟨fun _=>⟨HG.out,HT0.out,HR.out⟩,fun _=>rfl⟩).mono ?_);rintro e w_z ⟨rfl,hh⟩
     (try replace hL:=hL.below hh);(try replace h:=h.below hh);(try replace XH:=XH.below hh);replace hb:=bend hb hh;replace hE:=EachH.belowR hE hh))
 clear xh0 xh1 xh2
 replace hL:=hL.below (Below.refl _ _).drew
 replace h:=h.below (Below.refl _ _).drew
 replace XH:=XH.below (Below.refl _ _).drew
 replace hb:=hb.drew
 replace hE:=EachH.belowR hE (Below.refl _ _).drew
 refine wp_region_held_drew (S:=(fun w'=>w'.cell? ⟨gH,0,none⟩=some (.bool s_h)∧w'.cell? ⟨gH,1,none⟩=some (.slice A_h n_h c_h)∧w'.cell? ⟨gH,2,none⟩=some (.slice B_h m_h d_h))) (by kernel_rfl) (by with_reducible exact ⟨XH.c0,XH.c1,XH.c2⟩) (fun hHeld=>?_)
 refine wpAnyH_take (i:=0) (oi:=⟨some 30,.move (.tmp 0),22, "law.go:64",#[],none⟩) (v:=?_) rfl (by kernel_rfl) (by kernel_rfl) (by kernel_rfl) (fun _ _ _ h=>h) (Or.inl ⟨by rfl,?_⟩) hHeld ?_
 rotate_left
 · (intro w hSw;(try dsimp only at hSw);go_simp;try with_reducible rfl)
 simp only [Act.put,List.setIfInBounds_toArray,List.set_cons_zero,List.set_cons_succ]
 refine wpAnyH_take (i:=1) (oi:=⟨some 31,.call ⟨.builtin Builtin.len,#[.tmp 30],#[22]⟩,3, "law.go:64",#[⟨0,.data⟩],none⟩) (v:=?_) rfl (by kernel_rfl) (by kernel_rfl) (by kernel_rfl) (fun _ _ _ h=>h) (Or.inl ⟨by rfl,?_⟩) hHeld ?_
 rotate_left
 · (intro w hSw;(try dsimp only at hSw);go_simp;try with_reducible rfl)
 simp only [Act.put,List.setIfInBounds_toArray,List.set_cons_zero,List.set_cons_succ]
 refine wpAnyH_take (i:=2) (oi:=⟨some 32,.binOp BinOp.eql 3 (.tmp 31) (.const (Value.int IntKind.i64 2)) 3,4, "law.go:64",#[⟨1,.data⟩],none⟩) (v:=?_) rfl (by kernel_rfl) (by kernel_rfl) (by kernel_rfl) (fun _ _ _ h=>h) (Or.inl ⟨by rfl,?_⟩) hHeld ?_
 rotate_left
 · (intro w hSw;(try dsimp only at hSw);go_simp;try with_reducible rfl)
 simp only [Act.put,List.setIfInBounds_toArray,List.set_cons_zero,List.set_cons_succ]
 simp only [HN3.out]
 refine wpAnyH_take (i:=3) (oi:=⟨some 33,.move (.tmp 32),4, "law.go:64",#[⟨2,.data⟩],none⟩) (v:=?_) rfl (by kernel_rfl) (by kernel_rfl) (by kernel_rfl) (fun _ _ _ h=>h) (Or.inl ⟨by rfl,?_⟩) hHeld ?_
 rotate_left
 · (intro w hSw;(try dsimp only at hSw);go_simp;try with_reducible rfl)
 simp only [Act.put,List.setIfInBounds_toArray,List.set_cons_zero,List.set_cons_succ]
 refine wpAnyH_take (i:=4) (oi:=⟨some 34,.move (.tmp 6),4, "law.go:64",#[⟨3,.guard⟩],some (3,true)⟩) (v:=undef) rfl (by kernel_rfl) (by kernel_rfl) (by kernel_rfl) (fun _ _ _ h=>h) (Or.inr ⟨by rfl,rfl⟩) hHeld ?_
 simp only [Act.put,List.setIfInBounds_toArray,List.set_cons_zero,List.set_cons_succ]
 refine wpAnyH_take (i:=5) (oi:=⟨some 35,.unOp UnOp.not 4 (.tmp 34),4, "law.go:64",#[⟨4,.data⟩,⟨3,.guard⟩],some (3,true)⟩) (v:=undef) rfl (by kernel_rfl) (by kernel_rfl) (by kernel_rfl) (fun _ _ _ h=>h) (Or.inr ⟨by rfl,rfl⟩) hHeld ?_
 simp only [Act.put,List.setIfInBounds_toArray,List.set_cons_zero,List.set_cons_succ]
 refine wpAnyH_take (i:=6) (oi:=⟨some 36,.pick (.tmp 33) (.tmp 35) (.const (Value.bool false)),4, "law.go:64",#[⟨3,.data⟩,⟨5,.data⟩],none⟩) (v:=?_) rfl (by kernel_rfl) (by kernel_rfl) (by kernel_rfl) (fun _ _ _ h=>h) (Or.inl ⟨by rfl,?_⟩) hHeld ?_
 rotate_left
 · (intro w hSw;(try dsimp only at hSw);go_simp;try with_reducible rfl)
 simp only [Act.put,List.setIfInBounds_toArray,List.set_cons_zero,List.set_cons_succ]
 refine wpAnyH_take (i:=7) (oi:=⟨some 37,.move (.tmp 36),4, "law.go:64",#[⟨6,.data⟩,⟨3,.chain⟩],none⟩) (v:=?_) rfl (by kernel_rfl) (by kernel_rfl) (by kernel_rfl) (fun _ _ _ h=>h) (Or.inl ⟨by rfl,?_⟩) hHeld ?_
 rotate_left
 · (intro w hSw;(try dsimp only at hSw);go_simp;try with_reducible rfl)
 simp only [Act.put,List.setIfInBounds_toArray,List.set_cons_zero,List.set_cons_succ]
 refine wpAnyH_take (i:=8) (oi:=⟨some 38,.move (.tmp 6),4, "law.go:64",#[⟨7,.guard⟩],some (7,false)⟩) (v:=?_) rfl (by kernel_rfl) (by kernel_rfl) (by kernel_rfl) (fun _ _ _ h=>h) (Or.inl ⟨by rfl,?_⟩) hHeld ?_
 rotate_left
 · (intro w hSw;(try dsimp only at hSw);go_simp;try with_reducible rfl)
 simp only [Act.put,List.setIfInBounds_toArray,List.set_cons_zero,List.set_cons_succ]
 refine wpAnyH_take (i:=9) (oi:=⟨some 39,.move (.tmp 38),4, "law.go:64",#[⟨8,.data⟩,⟨7,.chain⟩,⟨7,.guard⟩],some (7,false)⟩) (v:=?_) rfl (by kernel_rfl) (by kernel_rfl) (by kernel_rfl) (fun _ _ _ h=>h) (Or.inl ⟨by rfl,?_⟩) hHeld ?_
 rotate_left
 · (intro w hSw;(try dsimp only at hSw);go_simp;try with_reducible rfl)
 simp only [Act.put,List.setIfInBounds_toArray,List.set_cons_zero,List.set_cons_succ]
 refine wpAnyH_take (i:=10) (oi:=⟨some 40,.move (.tmp 0),22, "law.go:64",#[⟨9,.guard⟩],some (9,true)⟩) (v:=?_) rfl (by kernel_rfl) (by kernel_rfl) (by kernel_rfl) (fun _ _ _ h=>h) (Or.inl ⟨by rfl,?_⟩) hHeld ?_
 rotate_left
 · (intro w hSw;(try dsimp only at hSw);go_simp;try with_reducible rfl)
 simp only [Act.put,List.setIfInBounds_toArray,List.set_cons_zero,List.set_cons_succ]
 refine wpAnyH_take (i:=11) (oi:=⟨some 41,.load 27 (.tmp 5),27, "law.go:64",#[⟨9,.guard⟩],some (9,true)⟩) (v:=?_) rfl (by kernel_rfl) (by kernel_rfl) (by kernel_rfl) (fun _ _ _ h=>h) (Or.inl ⟨by rfl,?_⟩) hHeld ?_
 rotate_left
 · (intro w hSw;(try dsimp only at hSw);go_simp;try with_reducible rfl)
 simp only [Act.put,List.setIfInBounds_toArray,List.set_cons_zero,List.set_cons_succ]
 refine wpAnyH_ready (rs:=[12]) (by kernel_rfl) (by simp) ?_
 refine AllReadyH.cons (o:=⟨some 42,.call ⟨.value (.func 18),#[.const (Value.int IntKind.i64 1),.const (Value.int IntKind.i64 9)],#[2,2]⟩,27, "law.go:64",#[⟨9,.chain⟩,⟨9,.guard⟩],some (9,true)⟩) rfl (fun K1 hK1=>?_) AllReadyH.nil
 go_simp
 first
 | (go_at_call 18;(with_reducible refine (rof_q 1 9 (by decide) (by decide) (by decide) (by decide) (by decide) _).mono ?_);rintro e w_i ⟨s_i,A_i,n_i,c_i,B_i,m_i,d_i,rfl,i,hh⟩
    (try replace hL:=hL.below hh);(try replace h:=h.below hh);(try replace XH:=XH.below hh);replace hb:=bend hb hh;replace hE:=EachH.belowR hE hh)
 refine hK1.out _ _ (by with_reducible exact ⟨XH.c0,XH.c1,XH.c2⟩) (fun hHeld=>?_)
 clear hK1 K1
 refine wpAnyH_ready (rs:=[13]) (by kernel_rfl) (by simp) ?_
 refine AllReadyH.cons (o:=⟨some 43,.call ⟨.value (.func 22),#[.tmp 41,.tmp 42],#[27,27]⟩,27, "law.go:64",#[⟨11,.data⟩,⟨12,.data⟩,⟨12,.chain⟩,⟨9,.guard⟩],some (9,true)⟩) rfl (fun K1 hK1=>?_) AllReadyH.nil
 go_simp
 first
 | (go_at_call 22;(with_reducible refine (radd_q h.qr i.qr (by decide) (by decide) (.inl (by decide)) (by decide) (by decide)).mono ?_);rintro e w_j ⟨s_j,A_j,n_j,c_j,B_j,m_j,d_j,rfl,j,hh⟩
    (try replace hL:=hL.below hh);(try replace h:=h.below hh);(try replace XH:=XH.below hh);replace hb:=bend hb hh;replace hE:=EachH.belowR hE hh)
 refine hK1.out _ _ (by with_reducible exact ⟨XH.c0,XH.c1,XH.c2⟩) (fun hHeld=>?_)
 clear hK1 K1
 refine wpAnyH_ready (rs:=[14]) (by kernel_rfl) (by simp) ?_
 refine AllReadyH.cons (o:=⟨some 44,.call ⟨.value (.func 11),#[.tmp 40,.tmp 43],#[22,27]⟩,4, "law.go:64",#[⟨10,.data⟩,⟨13,.data⟩,⟨13,.chain⟩,⟨9,.guard⟩],some (9,true)⟩) rfl (fun K1 hK1=>?_) AllReadyH.nil
 go_simp
 first
 | (go_at_call 11;(with_reducible refine (fis_any hL hE HN.out j.qr (by decide) (by decide) (by decide) (by decide) hnc true ⟨fun _=>⟨HG.out,tol_more HT0.out HR.out⟩,fun _=>rfl⟩).mono ?_);rintro e w_z ⟨rfl,hh⟩
    (try replace hL:=hL.below hh);(try replace h:=h.below hh);(try replace XH:=XH.below hh);replace hb:=bend hb hh;replace hE:=EachH.belowR hE hh)
 refine hK1.out _ _ (by with_reducible exact ⟨XH.c0,XH.c1,XH.c2⟩) (fun hHeld=>?_)
 clear hK1 K1
 refine wpAnyH_take (i:=15) (oi:=⟨some 45,.unOp UnOp.not 4 (.tmp 44),4, "law.go:64",#[⟨14,.data⟩,⟨9,.guard⟩],some (9,true)⟩) (v:=?_) rfl (by kernel_rfl) (by kernel_rfl) (by kernel_rfl) (fun _ _ _ h=>h) (Or.inl ⟨by rfl,?_⟩) hHeld ?_
 rotate_left
 · (intro w hSw;(try dsimp only at hSw);go_simp;try with_reducible rfl)
 simp only [Act.put,List.setIfInBounds_toArray,List.set_cons_zero,List.set_cons_succ]
 refine wpAnyH_take (i:=16) (oi:=⟨some 46,.pick (.tmp 39) (.tmp 45) (.const (Value.bool false)),4, "law.go:64",#[⟨9,.data⟩,⟨15,.data⟩,⟨7,.guard⟩],some (7,false)⟩) (v:=?_) rfl (by kernel_rfl) (by kernel_rfl) (by kernel_rfl) (fun _ _ _ h=>h) (Or.inl ⟨by rfl,?_⟩) hHeld ?_
 rotate_left
 · (intro w hSw;(try dsimp only at hSw);go_simp;try with_reducible rfl)
 simp only [Act.put,List.setIfInBounds_toArray,List.set_cons_zero,List.set_cons_succ]
 refine wpAnyH_take (i:=17) (oi:=⟨some 47,.pick (.tmp 37) (.const (Value.bool true)) (.tmp 46),4, "law.go:64",#[⟨7,.data⟩,⟨16,.data⟩],none⟩) (v:=?_) rfl (by kernel_rfl) (by kernel_rfl) (by kernel_rfl) (fun _ _ _ h=>h) (Or.inl ⟨by rfl,?_⟩) hHeld ?_
 rotate_left
 · (intro w hSw;(try dsimp only at hSw);go_simp;try with_reducible rfl)
 simp only [Act.put,List.setIfInBounds_toArray,List.set_cons_zero,List.set_cons_succ]
 refine wpAnyH_done (by kernel_rfl) ?_ _
 clear hHeld
 try clear i j
 go_upto_region 8 with (first
  | (go_at_call 10;(with_reducible refine (fgap_ok hL hE HN.out hnc (by decide) (by decide) HG.out).mono ?_);rintro e w_g ⟨s_g,A_g,n_g,c_g,B_g,m_g,d_g,rfl,g,hh⟩
     (try replace hL:=hL.below hh);(try replace h:=h.below hh);(try replace XH:=XH.below hh);replace hb:=bend hb hh;replace hE:=EachH.belowR hE hh))
 have XG:=B3.new' w_g (Value.bool s_g) (Value.slice A_g n_g c_g) (Value.slice B_g m_g d_g) w_g.heap.size rfl
 have hh:Below w_g.heap.size w_g (w_g.alloc (Obj.cells #[Value.bool s_g,Value.slice A_g n_g c_g,Value.slice B_g m_g d_g] 27)):=(Below.refl w_g.heap.size w_g).alloc (Nat.le_refl _) _
 generalize (w_g.alloc (Obj.cells #[Value.bool s_g,Value.slice A_g n_g c_g,Value.slice B_g m_g d_g] 27))=W2 at *
 replace hL:=hL.below hh;replace h:=h.below hh;replace XH:=XH.below hh;replace g:=g.below hh;replace hE:=EachH.belowR hE hh;replace hb:=bend hb hh;clear hh
 generalize w_g.heap.size=gG at *
 replace hL:=hL.below (Below.refl _ _).drew
 replace h:=h.below (Below.refl _ _).drew
 replace XH:=XH.below (Below.refl _ _).drew
 replace g:=g.below (Below.refl _ _).drew
 replace XG:=XG.below (Below.refl _ _).drew
 replace hb:=hb.drew
 replace hE:=EachH.belowR hE (Below.refl _ _).drew
 refine wp_region_held_drew (S:=(fun w'=>w'.cell? ⟨gG,0,none⟩=some (.bool s_g)∧w'.cell? ⟨gG,1,none⟩=some (.slice A_g n_g c_g)∧w'.cell? ⟨gG,2,none⟩=some (.slice B_g m_g d_g)∧w'.cell? ⟨gH,0,none⟩=some (.bool s_h)∧w'.cell? ⟨gH,1,none⟩=some (.slice A_h n_h c_h)∧w'.cell? ⟨gH,2,none⟩=some (.slice B_h m_h d_h))) (by kernel_rfl) (by with_reducible exact ⟨XG.c0,XG.c1,XG.c2,XH.c0,XH.c1,XH.c2⟩) (fun hHeld=>?_)
 refine wpAnyH_take (i:=0) (oi:=⟨some 53,.move (.tmp 8),33, "law.go:68",#[],none⟩) (v:=?_) rfl (by kernel_rfl) (by kernel_rfl) (by kernel_rfl) (fun _ _ _ h=>h) (Or.inl ⟨by rfl,?_⟩) hHeld ?_
 rotate_left
 · (intro w hSw;(try dsimp only at hSw);go_simp;try with_reducible rfl)
 simp only [Act.put,List.setIfInBounds_toArray,List.set_cons_zero,List.set_cons_succ]
 refine wpAnyH_take (i:=1) (oi:=⟨some 54,.binOp BinOp.neq 33 (.tmp 53) (.const (Value.int IntKind.i64 0)) 33,4, "law.go:68",#[⟨0,.data⟩],none⟩) (v:=?_) rfl (by kernel_rfl) (by kernel_rfl) (by kernel_rfl) (fun _ _ _ h=>h) (Or.inl ⟨by rfl,?_⟩) hHeld ?_
 rotate_left
 · (intro w hSw;(try dsimp only at hSw);go_simp;try with_reducible rfl)
 simp only [Act.put,List.setIfInBounds_toArray,List.set_cons_zero,List.set_cons_succ]
 refine wpAnyH_take (i:=2) (oi:=⟨some 55,.move (.tmp 54),4, "law.go:68",#[⟨1,.data⟩],none⟩) (v:=?_) rfl (by kernel_rfl) (by kernel_rfl) (by kernel_rfl) (fun _ _ _ h=>h) (Or.inl ⟨by rfl,?_⟩) hHeld ?_
 rotate_left
 · (intro w hSw;(try dsimp only at hSw);go_simp;try with_reducible rfl)
 simp only [Act.put,List.setIfInBounds_toArray,List.set_cons_zero,List.set_cons_succ]
 refine wpAnyH_take (i:=3) (oi:=⟨some 56,.move (.tmp 6),4, "law.go:68",#[⟨2,.guard⟩],some (2,false)⟩) (v:=?_) rfl (by kernel_rfl) (by kernel_rfl) (by kernel_rfl) (fun _ _ _ h=>h) (Or.inl ⟨by rfl,?_⟩) hHeld ?_
 rotate_left
 · (intro w hSw;(try dsimp only at hSw);go_simp;try with_reducible rfl)
 simp only [Act.put,List.setIfInBounds_toArray,List.set_cons_zero,List.set_cons_succ]
 refine wpAnyH_take (i:=4) (oi:=⟨some 57,.load 27 (.tmp 7),27, "law.go:68",#[⟨2,.guard⟩],some (2,false)⟩) (v:=?_) rfl (by kernel_rfl) (by kernel_rfl) (by kernel_rfl) (fun _ _ _ h=>h) (Or.inl ⟨by rfl,?_⟩) hHeld ?_
 rotate_left
 · (intro w hSw;(try dsimp only at hSw);go_simp;try with_reducible rfl)
 simp only [Act.put,List.setIfInBounds_toArray,List.set_cons_zero,List.set_cons_succ]
 refine wpAnyH_take (i:=5) (oi:=⟨some 58,.load 27 (.tmp 5),27, "law.go:68",#[⟨2,.guard⟩],some (2,false)⟩) (v:=?_) rfl (by kernel_rfl) (by kernel_rfl) (by kernel_rfl) (fun _ _ _ h=>h) (Or.inl ⟨by rfl,?_⟩) hHeld ?_
 rotate_left
 · (intro w hSw;(try dsimp only at hSw);go_simp;try with_reducible rfl)
 simp only [Act.put,List.setIfInBounds_toArray,List.set_cons_zero,List.set_cons_succ]
 refine wpAnyH_take (i:=6) (oi:=⟨some 59,.load 27 (.tmp 5),27, "law.go:68",#[⟨2,.guard⟩],some (2,false)⟩) (v:=?_) rfl (by kernel_rfl) (by kernel_rfl) (by kernel_rfl) (fun _ _ _ h=>h) (Or.inl ⟨by rfl,?_⟩) hHeld ?_
 rotate_left
 · (intro w hSw;(try dsimp only at hSw);go_simp;try with_reducible rfl)
 simp only [Act.put,List.setIfInBounds_toArray,List.set_cons_zero,List.set_cons_succ]
 refine wpAnyH_ready (rs:=[7]) (by kernel_rfl) (by simp) ?_
 refine AllReadyH.cons (o:=⟨some 60,.call ⟨.value (.func 23),#[.tmp 58,.tmp 59],#[27,27]⟩,27, "law.go:68",#[⟨5,.data⟩,⟨6,.data⟩,⟨2,.chain⟩,⟨2,.guard⟩],some (2,false)⟩) rfl (fun K1 hK1=>?_) AllReadyH.nil
 go_simp
 first
 | (go_at_call 23;(with_reducible refine (rmul_q h.qr h.qr (by decide) (by decide) (.inl (by decide)) (by decide) (by decide)).mono ?_);rintro e w_m ⟨s_m,A_m,n_m,c_m,B_m,m_m,d_m,rfl,m,hh⟩
    (try replace hL:=hL.below hh);(try replace h:=h.below hh);(try replace XH:=XH.below hh);(try replace g:=g.below hh);(try replace XG:=XG.below hh);replace hb:=bend hb hh;replace hE:=EachH.belowR hE hh)
 refine hK1.out _ _ (by with_reducible exact ⟨XG.c0,XG.c1,XG.c2,XH.c0,XH.c1,XH.c2⟩) (fun hHeld=>?_)
 clear hK1 K1
 refine wpAnyH_ready (rs:=[8]) (by kernel_rfl) (by simp) ?_
 refine AllReadyH.cons (o:=⟨some 61,.call ⟨.value (.func 20),#[.tmp 57,.tmp 60],#[27,27]⟩,3, "law.go:68",#[⟨4,.data⟩,⟨7,.data⟩,⟨7,.chain⟩,⟨2,.guard⟩],some (2,false)⟩) rfl (fun K1 hK1=>?_) AllReadyH.nil
 go_simp
 first
 | (go_at_call 20;(with_reducible refine (rcmp_q g.qr m.qr (by decide) (by decide) (.inl (by decide)) (by decide) (by decide)).mono ?_);rintro e w_z ⟨rfl,hh⟩
    rw [HTC.out];(try replace hL:=hL.below hh);(try replace h:=h.below hh);(try replace XH:=XH.below hh);(try replace g:=g.below hh);(try replace XG:=XG.below hh);replace hb:=bend hb hh;replace hE:=EachH.belowR hE hh)
 refine hK1.out _ _ (by with_reducible exact ⟨XG.c0,XG.c1,XG.c2,XH.c0,XH.c1,XH.c2⟩) (fun hHeld=>?_)
 clear hK1 K1
 refine wpAnyH_take (i:=9) (oi:=⟨some 62,.binOp BinOp.leq 3 (.tmp 61) (.const (Value.int IntKind.i64 0)) 3,4, "law.go:68",#[⟨8,.data⟩,⟨2,.guard⟩],some (2,false)⟩) (v:=?_) rfl (by kernel_rfl) (by kernel_rfl) (by kernel_rfl) (fun _ _ _ h=>h) (Or.inl ⟨by rfl,?_⟩) hHeld ?_
 rotate_left
 · (intro w hSw;(try dsimp only at hSw);go_simp;try with_reducible rfl)
 simp only [Act.put,List.setIfInBounds_toArray,List.set_cons_zero,List.set_cons_succ]
 simp only [HTD.out]
 refine wpAnyH_take (i:=10) (oi:=⟨some 63,.binOp BinOp.neq 4 (.tmp 56) (.tmp 62) 4,4, "law.go:68",#[⟨3,.data⟩,⟨9,.data⟩,⟨2,.guard⟩],some (2,false)⟩) (v:=?_) rfl (by kernel_rfl) (by kernel_rfl) (by kernel_rfl) (fun _ _ _ h=>h) (Or.inl ⟨by rfl,?_⟩) hHeld ?_
 rotate_left
 · (intro w hSw;(try dsimp only at hSw);go_simp;try with_reducible rfl)
 simp only [Act.put,List.setIfInBounds_toArray,List.set_cons_zero,List.set_cons_succ]
 refine wpAnyH_take (i:=11) (oi:=⟨some 64,.pick (.tmp 55) (.const (Value.bool true)) (.tmp 63),4, "law.go:68",#[⟨2,.data⟩,⟨10,.data⟩],none⟩) (v:=?_) rfl (by kernel_rfl) (by kernel_rfl) (by kernel_rfl) (fun _ _ _ h=>h) (Or.inl ⟨by rfl,?_⟩) hHeld ?_
 rotate_left
 · (intro w hSw;(try dsimp only at hSw);go_simp;try with_reducible rfl)
 simp only [Act.put,List.setIfInBounds_toArray,List.set_cons_zero,List.set_cons_succ]
 refine wpAnyH_take (i:=12) (oi:=⟨some 65,.move (.tmp 64),4, "law.go:68",#[⟨11,.data⟩,⟨8,.chain⟩],none⟩) (v:=?_) rfl (by kernel_rfl) (by kernel_rfl) (by kernel_rfl) (fun _ _ _ h=>h) (Or.inl ⟨by rfl,?_⟩) hHeld ?_
 rotate_left
 · (intro w hSw;(try dsimp only at hSw);go_simp;try with_reducible rfl)
 simp only [Act.put,List.setIfInBounds_toArray,List.set_cons_zero,List.set_cons_succ]
 refine wpAnyH_take (i:=13) (oi:=⟨some 66,.load 27 (.tmp 7),27, "law.go:68",#[⟨12,.guard⟩],some (12,false)⟩) (v:=?_) rfl (by kernel_rfl) (by kernel_rfl) (by kernel_rfl) (fun _ _ _ h=>h) (Or.inl ⟨by rfl,?_⟩) hHeld ?_
 rotate_left
 · (intro w hSw;(try dsimp only at hSw);go_simp;try with_reducible rfl)
 simp only [Act.put,List.setIfInBounds_toArray,List.set_cons_zero,List.set_cons_succ]
 refine wpAnyH_ready (rs:=[14]) (by kernel_rfl) (by simp) ?_
 refine AllReadyH.cons (o:=⟨some 67,.call ⟨.value (.func 24),#[.tmp 66],#[27]⟩,3, "law.go:68",#[⟨13,.data⟩,⟨12,.chain⟩,⟨12,.guard⟩],some (12,false)⟩) rfl (fun K1 hK1=>?_) AllReadyH.nil
 go_simp
 first
 | (go_at_call 24;(with_reducible refine (rsign_q g.qr (by decide) (by decide)).mono ?_);rintro e w_z ⟨rfl,hh⟩
    rw [HSC.out];(try replace hL:=hL.below hh);(try replace h:=h.below hh);(try replace XH:=XH.below hh);(try replace g:=g.below hh);(try replace XG:=XG.below hh);replace hb:=bend hb hh;replace hE:=EachH.belowR hE hh)
 refine hK1.out _ _ (by with_reducible exact ⟨XG.c0,XG.c1,XG.c2,XH.c0,XH.c1,XH.c2⟩) (fun hHeld=>?_)
 clear hK1 K1
 refine wpAnyH_take (i:=15) (oi:=⟨some 68,.binOp BinOp.lss 3 (.tmp 67) (.const (Value.int IntKind.i64 0)) 3,4, "law.go:68",#[⟨14,.data⟩,⟨12,.guard⟩],some (12,false)⟩) (v:=?_) rfl (by kernel_rfl) (by kernel_rfl) (by kernel_rfl) (fun _ _ _ h=>h) (Or.inl ⟨by rfl,?_⟩) hHeld ?_
 rotate_left
 · (intro w hSw;(try dsimp only at hSw);go_simp;try with_reducible rfl)
 simp only [Act.put,List.setIfInBounds_toArray,List.set_cons_zero,List.set_cons_succ]
 simp only [HSD.out]
 refine wpAnyH_take (i:=16) (oi:=⟨some 69,.pick (.tmp 65) (.const (Value.bool true)) (.tmp 68),4, "law.go:68",#[⟨12,.data⟩,⟨15,.data⟩],none⟩) (v:=?_) rfl (by kernel_rfl) (by kernel_rfl) (by kernel_rfl) (fun _ _ _ h=>h) (Or.inl ⟨by rfl,?_⟩) hHeld ?_
 rotate_left
 · (intro w hSw;(try dsimp only at hSw);go_simp;try with_reducible rfl)
 simp only [Act.put,List.setIfInBounds_toArray,List.set_cons_zero,List.set_cons_succ]
 refine wpAnyH_done (by kernel_rfl) ?_ _
 clear hHeld
 try clear m
 clear g h XG XH
 obtain ⟨P0,y0,hP0,hy0,p0⟩:=hE.at_ (i:=0) (by rw [HN.out];omega)
 obtain rfl:y0=fstH V:=Option.some.inj (hy0.symm.trans (fst_get (by rw [HVn.out];omega)))
 have HW0:Hid ((fstH V).w ≠ 0):=by have:=HG.out.2 _ (List.mem_of_getElem? hy0);show _ ≠ _;grind
 obtain ⟨g0,o0,hix0,E0,_⟩:=hL.ht hP0
 have hixa:∀ w',(Instr.indexAt 22 (.slice A n c) (.int .i64 0)).run Tryz.prog w'=.ok (.pointer (some ⟨g0,o0,none⟩)) w':=fun w'=>hix0 n c w' (by omega)
 have epl:=E0.ldH;clear hP0 hy0 hix0 E0
 go_upto_region 11 with (first
  | (go_at_call 19;(with_reducible refine (cpoint_p p0 (by decide) (by decide) HW0.out).mono ?_);rintro e w_x ⟨s_x,A_x,n_x,c_x,B_x,m_x,d_x,t_x,E_x,i_x,e_x,F_x,j_x,f_x,rfl,x,hh⟩
     (try replace hL:=hL.below hh);replace hb:=bend hb hh;replace hE:=EachH.belowR hE hh))
 clear epl hixa p0
 have XX:=B6.new' w_x (Value.bool s_x) (Value.slice A_x n_x c_x) (Value.slice B_x m_x d_x) (Value.bool t_x) (Value.slice E_x i_x e_x) (Value.slice F_x j_x f_x) w_x.heap.size rfl
 have hh:Below w_x.heap.size w_x (w_x.alloc (Obj.cells #[Value.bool s_x,Value.slice A_x n_x c_x,Value.slice B_x m_x d_x,Value.bool t_x,Value.slice E_x i_x e_x,Value.slice F_x j_x f_x] 49)):=(Below.refl w_x.heap.size w_x).alloc (Nat.le_refl _) _
 generalize (w_x.alloc (Obj.cells #[Value.bool s_x,Value.slice A_x n_x c_x,Value.slice B_x m_x d_x,Value.bool t_x,Value.slice E_x i_x e_x,Value.slice F_x j_x f_x] 49))=W3 at *
 replace hL:=hL.below hh;replace x:=x.below hh;replace hE:=EachH.belowR hE hh;replace hb:=bend hb hh;clear hh
 generalize w_x.heap.size=gX at *
 obtain ⟨P1,y1,hP1,hy1,p1⟩:=hE.at_ (i:=l) (by rw [HN.out];have:=HNL.out;omega)
 obtain rfl:y1=lstH V:=Option.some.inj (hy1.symm.trans (lst_get (by rw [HVn.out];exact HNL.out)))
 have HW1:Hid ((lstH V).w ≠ 0):=by have:=HG.out.2 _ (List.mem_of_getElem? hy1);show _ ≠ _;grind
 obtain ⟨g1,o1,hix1,E1,_⟩:=hL.ht hP1
 have hixb:∀ w',(Instr.indexAt 22 (.slice A n c) (.int .i64 (l:Int))).run Tryz.prog w'=.ok (.pointer (some ⟨g1,o1,none⟩)) w':=fun w'=>hix1 n c w' (by have:=HNL.out;omega)
 have epm:=E1.ldH;clear hP1 hy1 hix1 E1
 go_upto_region 12 with (first
  | (go_at_call 19;(with_reducible refine (cpoint_p p1 (by decide) (by decide) HW1.out).mono ?_);rintro e w_y ⟨s_y,A_y,n_y,c_y,B_y,m_y,d_y,t_y,E_y,i_y,e_y,F_y,j_y,f_y,rfl,y,hh⟩
     (try replace hL:=hL.below hh);(try replace x:=x.below hh);(try replace XX:=XX.below hh);replace hb:=bend hb hh;replace hE:=EachH.belowR hE hh))
 clear epm hixb p1
 have XY:=B6.new' w_y (Value.bool s_y) (Value.slice A_y n_y c_y) (Value.slice B_y m_y d_y) (Value.bool t_y) (Value.slice E_y i_y e_y) (Value.slice F_y j_y f_y) w_y.heap.size rfl
 have hh:Below w_y.heap.size w_y (w_y.alloc (Obj.cells #[Value.bool s_y,Value.slice A_y n_y c_y,Value.slice B_y m_y d_y,Value.bool t_y,Value.slice E_y i_y e_y,Value.slice F_y j_y f_y] 49)):=(Below.refl w_y.heap.size w_y).alloc (Nat.le_refl _) _
 generalize (w_y.alloc (Obj.cells #[Value.bool s_y,Value.slice A_y n_y c_y,Value.slice B_y m_y d_y,Value.bool t_y,Value.slice E_y i_y e_y,Value.slice F_y j_y f_y] 49))=W4 at *
 replace hL:=hL.below hh;replace x:=x.below hh;replace XX:=XX.below hh;replace y:=y.below hh;replace hE:=EachH.belowR hE hh;replace hb:=bend hb hh;clear hh
 generalize w_y.heap.size=gY at *
 obtain ⟨xx0,xx1,xx2,xx3,xx4,xx5⟩:=XX.all;obtain ⟨xy0,xy1,xy2,xy3,xy4,xy5⟩:=XY.all
 go_wp2_with (first
  | (go_at_call 21;(with_reducible refine (ptoseg_p x.pr x.pr y.pr (by decide) (by decide) (by decide) (by decide)).mono ?_);rintro e w_s ⟨s_s,A_s,n_s,c_s,B_s,m_s,d_s,rfl,s,hh⟩
     replace hb:=bend hb hh)
  | (go_at_call 24;(with_reducible refine (rsign_q s.qr (by decide) (by decide)).mono ?_);rintro e w_z ⟨rfl,hh⟩
     rw [HFA.out];replace hb:=bend hb hh)
  | (go_at_call 8;(with_reducible refine (wakes15_any _).mono ?_);rintro e w_z ⟨rfl,hh⟩
     replace hb:=bend hb hh))
 (try rw [Exit.noGoto_ret])
 go_ret;exact ⟨rfl,hb⟩
theorem fmore_n {A:Option Addr} {n c k8:Nat} {L:List HV} {V:List AH} (hL:SV w A (hvs L)) (hn:L.length=n) (hE:EachH HR w L V 4) (hs:(∀ p ∈ L,p.small 4)∧n≤6) (hk8:k8≤255) (hnc:n≤c) (hg:GoodH V) (hn2:n ≠ 2) (hr:¬ gapQ V≤Rat.divInt ((k8 % 20:Nat):Int) 4*Rat.divInt ((k8 % 20:Nat):Int) 4) :
 Calls Tryz.prog 5 #[.slice A n c,.int .u8 (k8:Int)] w fun e w'=>e=.returned (.bool true)∧Below w.heap.size w w':=by
 have HG:=Lib.hid hg
 have hn24:2≤n∧n≤4:=by have:=hg.1;rw [← hE.1,hn] at this;exact this
 obtain ⟨l,hl⟩:∃ l,n=l+1:=⟨n - 1,by omega⟩
 have HNL:=Lib.hid hl
 have hwl:IntKind.i64.wrap ((n:Int) - 1)=(l:Int):=by rw [IntWalk.i64_in _ (by omega)];omega
 clear hl hg
 obtain ⟨q,hq⟩:∃ q,k8 % 20=q:=⟨_,rfl⟩
 rw [hq] at hr
 have hq20:q < 20:=by omega
 have hmod:(k8:Int).tmod 20=(q:Int):=by rw [Int.tmod_eq_emod_of_nonneg (by omega)];omega
 have hwk:IntKind.i64.wrap (k8:Int)=(k8:Int):=IntWalk.i64_in _ (by omega)
 have hwq:IntKind.i64.wrap (q:Int)=(q:Int):=IntWalk.i64_in _ (by omega)
 obtain ⟨t,ht⟩:∃ t,Rat.divInt (q:Int) 4=t:=⟨_,rfl⟩
 have HT:=Lib.hid ht
 have HT0:Hid (0≤t):=by have:=tol_nn q hq20;rw [ht] at this;exact this
 rw [ht] at hr;have HR:=Lib.hid hr
 have HNN:Hid (0≤gapQ V):=topQ_nonneg _
 obtain ⟨T,hT,hTd⟩:∃ T,cmpQ (gapQ V) (t*t)=T∧decide (T≤0)=false:=⟨_,rfl,decide_eq_false (fun e=>hr (cmpQ_le.1 e))⟩
 have HTC:=Lib.hid hT;have HTD:=Lib.hid hTd
 obtain ⟨S,hS,hSd⟩:∃ S,sgnQ (gapQ V)=S∧decide (S < 0)=false:=⟨_,rfl,decide_eq_false (by have:=sgn_nonneg.2 HNN.out;omega)⟩
 have HSC:=Lib.hid hS;have HSD:=Lib.hid hSd
 have HFA:=Lib.hid (far_ab (fstH V) (lstH V))
 have hn3:((n:Int) == 2)=false:=by simp;omega
 have HN3:=Lib.hid hn3;clear ht hr hT hTd hS hSd hn2 hn3 hq;have HF:=Lib.hid hs
 have hm:n≤maxLen:=by unfold maxLen;omega
 have hn9:n≤1000:=by omega
 have HVn:Hid (V.length=n):=hE.1.symm.trans hn
 clear hs
 have hb:Below w.heap.size w w:=Below.refl _ _
 have HN:=Lib.hid hn;clear hn
 go_enter Tryz.func5,Tryz.ntmps5
 go_upto_region 4 with (first
  | (go_at_call 6;(with_reducible refine (fair13_t hL HN.out hm HF.out).mono ?_);rintro e w_z ⟨rfl,hh⟩
     (try replace hL:=hL.below hh);replace hb:=bend hb hh;replace hE:=EachH.belowR hE hh)
  | (go_at_call 9;(with_reducible refine (rins13 hL hE HN.out hn9 (by decide) (by decide)).mono ?_);rintro e w_i ⟨v1,M1,rfl,l1,e1,hh⟩
     (try replace hL:=hL.below hh);replace hb:=bend hb hh;replace hE:=EachH.belowR hE hh
     obtain ⟨A_x,c_x,rfl,_,_⟩:=l1.form
     have hM1:M1.length=n:=e1.1.trans HVn.out
     rw [hM1] at l1 ⊢
     have LM1:=l1.sv)
  | (go_at_call 14;(with_reducible refine (rgood13_t LM1 e1 hM1 hn9 HG.out).mono ?_);rintro e w_z ⟨rfl,hh⟩
     (try replace hL:=hL.below hh);replace hb:=bend hb hh;replace hE:=EachH.belowR hE hh;clear e1 l1 LM1)
  | (go_at_call 18;(with_reducible refine (rof_q (q:Int) 4 (by omega) (by omega) (by decide) (by decide) (by decide) _).mono ?_);rintro e w_h ⟨s_h,A_h,n_h,c_h,B_h,m_h,d_h,rfl,h,hh⟩
     (try replace hL:=hL.below hh);replace hb:=bend hb hh;replace hE:=EachH.belowR hE hh;rw [HT.out] at h))
 have XH:=B3.new' w_h (Value.bool s_h) (Value.slice A_h n_h c_h) (Value.slice B_h m_h d_h) w_h.heap.size rfl
 have hh:Below w_h.heap.size w_h (w_h.alloc (Obj.cells #[Value.bool s_h,Value.slice A_h n_h c_h,Value.slice B_h m_h d_h] 27)):=(Below.refl w_h.heap.size w_h).alloc (Nat.le_refl _) _
 generalize (w_h.alloc (Obj.cells #[Value.bool s_h,Value.slice A_h n_h c_h,Value.slice B_h m_h d_h] 27))=W1 at *
 replace hL:=hL.below hh;replace h:=h.below hh;replace hE:=EachH.belowR hE hh;replace hb:=bend hb hh;clear hh
 generalize w_h.heap.size=gH at *
 obtain ⟨xh0,xh1,xh2⟩:=XH.all
 go_upto_region 5 with (first
  | (go_at_call 11;(with_reducible refine (fis_any hL hE HN.out h.qr (by decide) (by decide) (by decide) (by decide) hnc false ⟨fun e=>(by cases e),fun e=>absurd e.2.2 HR.out⟩).mono ?_);rintro e w_z ⟨rfl,hh⟩
     (try replace hL:=hL.below hh);(try replace h:=h.below hh);(try replace XH:=XH.below hh);replace hb:=bend hb hh;replace hE:=EachH.belowR hE hh))
 clear xh0 xh1 xh2
 replace hL:=hL.below (Below.refl _ _).drew
 replace h:=h.below (Below.refl _ _).drew
 replace XH:=XH.below (Below.refl _ _).drew
 replace hb:=hb.drew
 replace hE:=EachH.belowR hE (Below.refl _ _).drew
 refine wp_region_held_drew (S:=(fun w'=>w'.cell? ⟨gH,0,none⟩=some (.bool s_h)∧w'.cell? ⟨gH,1,none⟩=some (.slice A_h n_h c_h)∧w'.cell? ⟨gH,2,none⟩=some (.slice B_h m_h d_h))) (by kernel_rfl) (by with_reducible exact ⟨XH.c0,XH.c1,XH.c2⟩) (fun hHeld=>?_)
 refine wpAnyH_take (i:=0) (oi:=⟨some 30,.move (.tmp 0),22, "law.go:64",#[],none⟩) (v:=?_) rfl (by kernel_rfl) (by kernel_rfl) (by kernel_rfl) (fun _ _ _ h=>h) (Or.inl ⟨by rfl,?_⟩) hHeld ?_
 rotate_left
 · (intro w hSw;(try dsimp only at hSw);go_simp;try with_reducible rfl)
 simp only [Act.put,List.setIfInBounds_toArray,List.set_cons_zero,List.set_cons_succ]
 refine wpAnyH_take (i:=1) (oi:=⟨some 31,.call ⟨.builtin Builtin.len,#[.tmp 30],#[22]⟩,3, "law.go:64",#[⟨0,.data⟩],none⟩) (v:=?_) rfl (by kernel_rfl) (by kernel_rfl) (by kernel_rfl) (fun _ _ _ h=>h) (Or.inl ⟨by rfl,?_⟩) hHeld ?_
 rotate_left
 · (intro w hSw;(try dsimp only at hSw);go_simp;try with_reducible rfl)
 simp only [Act.put,List.setIfInBounds_toArray,List.set_cons_zero,List.set_cons_succ]
 refine wpAnyH_take (i:=2) (oi:=⟨some 32,.binOp BinOp.eql 3 (.tmp 31) (.const (Value.int IntKind.i64 2)) 3,4, "law.go:64",#[⟨1,.data⟩],none⟩) (v:=?_) rfl (by kernel_rfl) (by kernel_rfl) (by kernel_rfl) (fun _ _ _ h=>h) (Or.inl ⟨by rfl,?_⟩) hHeld ?_
 rotate_left
 · (intro w hSw;(try dsimp only at hSw);go_simp;try with_reducible rfl)
 simp only [Act.put,List.setIfInBounds_toArray,List.set_cons_zero,List.set_cons_succ]
 simp only [HN3.out]
 refine wpAnyH_take (i:=3) (oi:=⟨some 33,.move (.tmp 32),4, "law.go:64",#[⟨2,.data⟩],none⟩) (v:=?_) rfl (by kernel_rfl) (by kernel_rfl) (by kernel_rfl) (fun _ _ _ h=>h) (Or.inl ⟨by rfl,?_⟩) hHeld ?_
 rotate_left
 · (intro w hSw;(try dsimp only at hSw);go_simp;try with_reducible rfl)
 simp only [Act.put,List.setIfInBounds_toArray,List.set_cons_zero,List.set_cons_succ]
 refine wpAnyH_take (i:=4) (oi:=⟨some 34,.move (.tmp 6),4, "law.go:64",#[⟨3,.guard⟩],some (3,true)⟩) (v:=undef) rfl (by kernel_rfl) (by kernel_rfl) (by kernel_rfl) (fun _ _ _ h=>h) (Or.inr ⟨by rfl,rfl⟩) hHeld ?_
 simp only [Act.put,List.setIfInBounds_toArray,List.set_cons_zero,List.set_cons_succ]
 refine wpAnyH_take (i:=5) (oi:=⟨some 35,.unOp UnOp.not 4 (.tmp 34),4, "law.go:64",#[⟨4,.data⟩,⟨3,.guard⟩],some (3,true)⟩) (v:=undef) rfl (by kernel_rfl) (by kernel_rfl) (by kernel_rfl) (fun _ _ _ h=>h) (Or.inr ⟨by rfl,rfl⟩) hHeld ?_
 simp only [Act.put,List.setIfInBounds_toArray,List.set_cons_zero,List.set_cons_succ]
 refine wpAnyH_take (i:=6) (oi:=⟨some 36,.pick (.tmp 33) (.tmp 35) (.const (Value.bool false)),4, "law.go:64",#[⟨3,.data⟩,⟨5,.data⟩],none⟩) (v:=?_) rfl (by kernel_rfl) (by kernel_rfl) (by kernel_rfl) (fun _ _ _ h=>h) (Or.inl ⟨by rfl,?_⟩) hHeld ?_
 rotate_left
 · (intro w hSw;(try dsimp only at hSw);go_simp;try with_reducible rfl)
 simp only [Act.put,List.setIfInBounds_toArray,List.set_cons_zero,List.set_cons_succ]
 refine wpAnyH_take (i:=7) (oi:=⟨some 37,.move (.tmp 36),4, "law.go:64",#[⟨6,.data⟩,⟨3,.chain⟩],none⟩) (v:=?_) rfl (by kernel_rfl) (by kernel_rfl) (by kernel_rfl) (fun _ _ _ h=>h) (Or.inl ⟨by rfl,?_⟩) hHeld ?_
 rotate_left
 · (intro w hSw;(try dsimp only at hSw);go_simp;try with_reducible rfl)
 simp only [Act.put,List.setIfInBounds_toArray,List.set_cons_zero,List.set_cons_succ]
 refine wpAnyH_take (i:=8) (oi:=⟨some 38,.move (.tmp 6),4, "law.go:64",#[⟨7,.guard⟩],some (7,false)⟩) (v:=?_) rfl (by kernel_rfl) (by kernel_rfl) (by kernel_rfl) (fun _ _ _ h=>h) (Or.inl ⟨by rfl,?_⟩) hHeld ?_
 rotate_left
 · (intro w hSw;(try dsimp only at hSw);go_simp;try with_reducible rfl)
 simp only [Act.put,List.setIfInBounds_toArray,List.set_cons_zero,List.set_cons_succ]
 refine wpAnyH_take (i:=9) (oi:=⟨some 39,.move (.tmp 38),4, "law.go:64",#[⟨8,.data⟩,⟨7,.chain⟩,⟨7,.guard⟩],some (7,false)⟩) (v:=?_) rfl (by kernel_rfl) (by kernel_rfl) (by kernel_rfl) (fun _ _ _ h=>h) (Or.inl ⟨by rfl,?_⟩) hHeld ?_
 rotate_left
 · (intro w hSw;(try dsimp only at hSw);go_simp;try with_reducible rfl)
 simp only [Act.put,List.setIfInBounds_toArray,List.set_cons_zero,List.set_cons_succ]
 refine wpAnyH_take (i:=10) (oi:=⟨some 40,.move (.tmp 0),22, "law.go:64",#[⟨9,.guard⟩],some (9,true)⟩) (v:=undef) rfl (by kernel_rfl) (by kernel_rfl) (by kernel_rfl) (fun _ _ _ h=>h) (Or.inr ⟨by rfl,rfl⟩) hHeld ?_
 simp only [Act.put,List.setIfInBounds_toArray,List.set_cons_zero,List.set_cons_succ]
 refine wpAnyH_take (i:=11) (oi:=⟨some 41,.load 27 (.tmp 5),27, "law.go:64",#[⟨9,.guard⟩],some (9,true)⟩) (v:=undef) rfl (by kernel_rfl) (by kernel_rfl) (by kernel_rfl) (fun _ _ _ h=>h) (Or.inr ⟨by rfl,rfl⟩) hHeld ?_
 simp only [Act.put,List.setIfInBounds_toArray,List.set_cons_zero,List.set_cons_succ]
 refine wpAnyH_take (i:=12) (oi:=⟨some 42,.call ⟨.value (.func 18),#[.const (Value.int IntKind.i64 1),.const (Value.int IntKind.i64 9)],#[2,2]⟩,27, "law.go:64",#[⟨9,.chain⟩,⟨9,.guard⟩],some (9,true)⟩) (v:=undef) rfl (by kernel_rfl) (by kernel_rfl) (by kernel_rfl) (fun _ _ _ h=>h) (Or.inr ⟨by rfl,rfl⟩) hHeld ?_
 simp only [Act.put,List.setIfInBounds_toArray,List.set_cons_zero,List.set_cons_succ]
 refine wpAnyH_take (i:=13) (oi:=⟨some 43,.call ⟨.value (.func 22),#[.tmp 41,.tmp 42],#[27,27]⟩,27, "law.go:64",#[⟨11,.data⟩,⟨12,.data⟩,⟨12,.chain⟩,⟨9,.guard⟩],some (9,true)⟩) (v:=undef) rfl (by kernel_rfl) (by kernel_rfl) (by kernel_rfl) (fun _ _ _ h=>h) (Or.inr ⟨by rfl,rfl⟩) hHeld ?_
 simp only [Act.put,List.setIfInBounds_toArray,List.set_cons_zero,List.set_cons_succ]
 refine wpAnyH_take (i:=14) (oi:=⟨some 44,.call ⟨.value (.func 11),#[.tmp 40,.tmp 43],#[22,27]⟩,4, "law.go:64",#[⟨10,.data⟩,⟨13,.data⟩,⟨13,.chain⟩,⟨9,.guard⟩],some (9,true)⟩) (v:=undef) rfl (by kernel_rfl) (by kernel_rfl) (by kernel_rfl) (fun _ _ _ h=>h) (Or.inr ⟨by rfl,rfl⟩) hHeld ?_
 simp only [Act.put,List.setIfInBounds_toArray,List.set_cons_zero,List.set_cons_succ]
 refine wpAnyH_take (i:=15) (oi:=⟨some 45,.unOp UnOp.not 4 (.tmp 44),4, "law.go:64",#[⟨14,.data⟩,⟨9,.guard⟩],some (9,true)⟩) (v:=undef) rfl (by kernel_rfl) (by kernel_rfl) (by kernel_rfl) (fun _ _ _ h=>h) (Or.inr ⟨by rfl,rfl⟩) hHeld ?_
 simp only [Act.put,List.setIfInBounds_toArray,List.set_cons_zero,List.set_cons_succ]
 refine wpAnyH_take (i:=16) (oi:=⟨some 46,.pick (.tmp 39) (.tmp 45) (.const (Value.bool false)),4, "law.go:64",#[⟨9,.data⟩,⟨15,.data⟩,⟨7,.guard⟩],some (7,false)⟩) (v:=?_) rfl (by kernel_rfl) (by kernel_rfl) (by kernel_rfl) (fun _ _ _ h=>h) (Or.inl ⟨by rfl,?_⟩) hHeld ?_
 rotate_left
 · (intro w hSw;(try dsimp only at hSw);go_simp;try with_reducible rfl)
 simp only [Act.put,List.setIfInBounds_toArray,List.set_cons_zero,List.set_cons_succ]
 refine wpAnyH_take (i:=17) (oi:=⟨some 47,.pick (.tmp 37) (.const (Value.bool true)) (.tmp 46),4, "law.go:64",#[⟨7,.data⟩,⟨16,.data⟩],none⟩) (v:=?_) rfl (by kernel_rfl) (by kernel_rfl) (by kernel_rfl) (fun _ _ _ h=>h) (Or.inl ⟨by rfl,?_⟩) hHeld ?_
 rotate_left
 · (intro w hSw;(try dsimp only at hSw);go_simp;try with_reducible rfl)
 simp only [Act.put,List.setIfInBounds_toArray,List.set_cons_zero,List.set_cons_succ]
 refine wpAnyH_done (by kernel_rfl) ?_ _
 clear hHeld
 go_upto_region 8 with (first
  | (go_at_call 10;(with_reducible refine (fgap_ok hL hE HN.out hnc (by decide) (by decide) HG.out).mono ?_);rintro e w_g ⟨s_g,A_g,n_g,c_g,B_g,m_g,d_g,rfl,g,hh⟩
     (try replace hL:=hL.below hh);(try replace h:=h.below hh);(try replace XH:=XH.below hh);replace hb:=bend hb hh;replace hE:=EachH.belowR hE hh))
 have XG:=B3.new' w_g (Value.bool s_g) (Value.slice A_g n_g c_g) (Value.slice B_g m_g d_g) w_g.heap.size rfl
 have hh:Below w_g.heap.size w_g (w_g.alloc (Obj.cells #[Value.bool s_g,Value.slice A_g n_g c_g,Value.slice B_g m_g d_g] 27)):=(Below.refl w_g.heap.size w_g).alloc (Nat.le_refl _) _
 generalize (w_g.alloc (Obj.cells #[Value.bool s_g,Value.slice A_g n_g c_g,Value.slice B_g m_g d_g] 27))=W2 at *
 replace hL:=hL.below hh;replace h:=h.below hh;replace XH:=XH.below hh;replace g:=g.below hh;replace hE:=EachH.belowR hE hh;replace hb:=bend hb hh;clear hh
 generalize w_g.heap.size=gG at *
 replace hL:=hL.below (Below.refl _ _).drew
 replace h:=h.below (Below.refl _ _).drew
 replace XH:=XH.below (Below.refl _ _).drew
 replace g:=g.below (Below.refl _ _).drew
 replace XG:=XG.below (Below.refl _ _).drew
 replace hb:=hb.drew
 replace hE:=EachH.belowR hE (Below.refl _ _).drew
 refine wp_region_held_drew (S:=(fun w'=>w'.cell? ⟨gG,0,none⟩=some (.bool s_g)∧w'.cell? ⟨gG,1,none⟩=some (.slice A_g n_g c_g)∧w'.cell? ⟨gG,2,none⟩=some (.slice B_g m_g d_g)∧w'.cell? ⟨gH,0,none⟩=some (.bool s_h)∧w'.cell? ⟨gH,1,none⟩=some (.slice A_h n_h c_h)∧w'.cell? ⟨gH,2,none⟩=some (.slice B_h m_h d_h))) (by kernel_rfl) (by with_reducible exact ⟨XG.c0,XG.c1,XG.c2,XH.c0,XH.c1,XH.c2⟩) (fun hHeld=>?_)
 refine wpAnyH_take (i:=0) (oi:=⟨some 53,.move (.tmp 8),33, "law.go:68",#[],none⟩) (v:=?_) rfl (by kernel_rfl) (by kernel_rfl) (by kernel_rfl) (fun _ _ _ h=>h) (Or.inl ⟨by rfl,?_⟩) hHeld ?_
 rotate_left
 · (intro w hSw;(try dsimp only at hSw);go_simp;try with_reducible rfl)
 simp only [Act.put,List.setIfInBounds_toArray,List.set_cons_zero,List.set_cons_succ]
 refine wpAnyH_take (i:=1) (oi:=⟨some 54,.binOp BinOp.neq 33 (.tmp 53) (.const (Value.int IntKind.i64 0)) 33,4, "law.go:68",#[⟨0,.data⟩],none⟩) (v:=?_) rfl (by kernel_rfl) (by kernel_rfl) (by kernel_rfl) (fun _ _ _ h=>h) (Or.inl ⟨by rfl,?_⟩) hHeld ?_
 rotate_left
 · (intro w hSw;(try dsimp only at hSw);go_simp;try with_reducible rfl)
 simp only [Act.put,List.setIfInBounds_toArray,List.set_cons_zero,List.set_cons_succ]
 refine wpAnyH_take (i:=2) (oi:=⟨some 55,.move (.tmp 54),4, "law.go:68",#[⟨1,.data⟩],none⟩) (v:=?_) rfl (by kernel_rfl) (by kernel_rfl) (by kernel_rfl) (fun _ _ _ h=>h) (Or.inl ⟨by rfl,?_⟩) hHeld ?_
 rotate_left
 · (intro w hSw;(try dsimp only at hSw);go_simp;try with_reducible rfl)
 simp only [Act.put,List.setIfInBounds_toArray,List.set_cons_zero,List.set_cons_succ]
 refine wpAnyH_take (i:=3) (oi:=⟨some 56,.move (.tmp 6),4, "law.go:68",#[⟨2,.guard⟩],some (2,false)⟩) (v:=?_) rfl (by kernel_rfl) (by kernel_rfl) (by kernel_rfl) (fun _ _ _ h=>h) (Or.inl ⟨by rfl,?_⟩) hHeld ?_
 rotate_left
 · (intro w hSw;(try dsimp only at hSw);go_simp;try with_reducible rfl)
 simp only [Act.put,List.setIfInBounds_toArray,List.set_cons_zero,List.set_cons_succ]
 refine wpAnyH_take (i:=4) (oi:=⟨some 57,.load 27 (.tmp 7),27, "law.go:68",#[⟨2,.guard⟩],some (2,false)⟩) (v:=?_) rfl (by kernel_rfl) (by kernel_rfl) (by kernel_rfl) (fun _ _ _ h=>h) (Or.inl ⟨by rfl,?_⟩) hHeld ?_
 rotate_left
 · (intro w hSw;(try dsimp only at hSw);go_simp;try with_reducible rfl)
 simp only [Act.put,List.setIfInBounds_toArray,List.set_cons_zero,List.set_cons_succ]
 refine wpAnyH_take (i:=5) (oi:=⟨some 58,.load 27 (.tmp 5),27, "law.go:68",#[⟨2,.guard⟩],some (2,false)⟩) (v:=?_) rfl (by kernel_rfl) (by kernel_rfl) (by kernel_rfl) (fun _ _ _ h=>h) (Or.inl ⟨by rfl,?_⟩) hHeld ?_
 rotate_left
 · (intro w hSw;(try dsimp only at hSw);go_simp;try with_reducible rfl)
 simp only [Act.put,List.setIfInBounds_toArray,List.set_cons_zero,List.set_cons_succ]
 refine wpAnyH_take (i:=6) (oi:=⟨some 59,.load 27 (.tmp 5),27, "law.go:68",#[⟨2,.guard⟩],some (2,false)⟩) (v:=?_) rfl (by kernel_rfl) (by kernel_rfl) (by kernel_rfl) (fun _ _ _ h=>h) (Or.inl ⟨by rfl,?_⟩) hHeld ?_
 rotate_left
 · (intro w hSw;(try dsimp only at hSw);go_simp;try with_reducible rfl)
 simp only [Act.put,List.setIfInBounds_toArray,List.set_cons_zero,List.set_cons_succ]
 refine wpAnyH_ready (rs:=[7]) (by kernel_rfl) (by simp) ?_
 refine AllReadyH.cons (o:=⟨some 60,.call ⟨.value (.func 23),#[.tmp 58,.tmp 59],#[27,27]⟩,27, "law.go:68",#[⟨5,.data⟩,⟨6,.data⟩,⟨2,.chain⟩,⟨2,.guard⟩],some (2,false)⟩) rfl (fun K1 hK1=>?_) AllReadyH.nil
 go_simp
 first
 | (go_at_call 23;(with_reducible refine (rmul_q h.qr h.qr (by decide) (by decide) (.inl (by decide)) (by decide) (by decide)).mono ?_);rintro e w_m ⟨s_m,A_m,n_m,c_m,B_m,m_m,d_m,rfl,m,hh⟩
    (try replace hL:=hL.below hh);(try replace h:=h.below hh);(try replace XH:=XH.below hh);(try replace g:=g.below hh);(try replace XG:=XG.below hh);replace hb:=bend hb hh;replace hE:=EachH.belowR hE hh)
 refine hK1.out _ _ (by with_reducible exact ⟨XG.c0,XG.c1,XG.c2,XH.c0,XH.c1,XH.c2⟩) (fun hHeld=>?_)
 clear hK1 K1
 refine wpAnyH_ready (rs:=[8]) (by kernel_rfl) (by simp) ?_
 refine AllReadyH.cons (o:=⟨some 61,.call ⟨.value (.func 20),#[.tmp 57,.tmp 60],#[27,27]⟩,3, "law.go:68",#[⟨4,.data⟩,⟨7,.data⟩,⟨7,.chain⟩,⟨2,.guard⟩],some (2,false)⟩) rfl (fun K1 hK1=>?_) AllReadyH.nil
 go_simp
 first
 | (go_at_call 20;(with_reducible refine (rcmp_q g.qr m.qr (by decide) (by decide) (.inl (by decide)) (by decide) (by decide)).mono ?_);rintro e w_z ⟨rfl,hh⟩
    rw [HTC.out];(try replace hL:=hL.below hh);(try replace h:=h.below hh);(try replace XH:=XH.below hh);(try replace g:=g.below hh);(try replace XG:=XG.below hh);replace hb:=bend hb hh;replace hE:=EachH.belowR hE hh)
 refine hK1.out _ _ (by with_reducible exact ⟨XG.c0,XG.c1,XG.c2,XH.c0,XH.c1,XH.c2⟩) (fun hHeld=>?_)
 clear hK1 K1
 refine wpAnyH_take (i:=9) (oi:=⟨some 62,.binOp BinOp.leq 3 (.tmp 61) (.const (Value.int IntKind.i64 0)) 3,4, "law.go:68",#[⟨8,.data⟩,⟨2,.guard⟩],some (2,false)⟩) (v:=?_) rfl (by kernel_rfl) (by kernel_rfl) (by kernel_rfl) (fun _ _ _ h=>h) (Or.inl ⟨by rfl,?_⟩) hHeld ?_
 rotate_left
 · (intro w hSw;(try dsimp only at hSw);go_simp;try with_reducible rfl)
 simp only [Act.put,List.setIfInBounds_toArray,List.set_cons_zero,List.set_cons_succ]
 simp only [HTD.out]
 refine wpAnyH_take (i:=10) (oi:=⟨some 63,.binOp BinOp.neq 4 (.tmp 56) (.tmp 62) 4,4, "law.go:68",#[⟨3,.data⟩,⟨9,.data⟩,⟨2,.guard⟩],some (2,false)⟩) (v:=?_) rfl (by kernel_rfl) (by kernel_rfl) (by kernel_rfl) (fun _ _ _ h=>h) (Or.inl ⟨by rfl,?_⟩) hHeld ?_
 rotate_left
 · (intro w hSw;(try dsimp only at hSw);go_simp;try with_reducible rfl)
 simp only [Act.put,List.setIfInBounds_toArray,List.set_cons_zero,List.set_cons_succ]
 refine wpAnyH_take (i:=11) (oi:=⟨some 64,.pick (.tmp 55) (.const (Value.bool true)) (.tmp 63),4, "law.go:68",#[⟨2,.data⟩,⟨10,.data⟩],none⟩) (v:=?_) rfl (by kernel_rfl) (by kernel_rfl) (by kernel_rfl) (fun _ _ _ h=>h) (Or.inl ⟨by rfl,?_⟩) hHeld ?_
 rotate_left
 · (intro w hSw;(try dsimp only at hSw);go_simp;try with_reducible rfl)
 simp only [Act.put,List.setIfInBounds_toArray,List.set_cons_zero,List.set_cons_succ]
 refine wpAnyH_take (i:=12) (oi:=⟨some 65,.move (.tmp 64),4, "law.go:68",#[⟨11,.data⟩,⟨8,.chain⟩],none⟩) (v:=?_) rfl (by kernel_rfl) (by kernel_rfl) (by kernel_rfl) (fun _ _ _ h=>h) (Or.inl ⟨by rfl,?_⟩) hHeld ?_
 rotate_left
 · (intro w hSw;(try dsimp only at hSw);go_simp;try with_reducible rfl)
 simp only [Act.put,List.setIfInBounds_toArray,List.set_cons_zero,List.set_cons_succ]
 refine wpAnyH_take (i:=13) (oi:=⟨some 66,.load 27 (.tmp 7),27, "law.go:68",#[⟨12,.guard⟩],some (12,false)⟩) (v:=?_) rfl (by kernel_rfl) (by kernel_rfl) (by kernel_rfl) (fun _ _ _ h=>h) (Or.inl ⟨by rfl,?_⟩) hHeld ?_
 rotate_left
 · (intro w hSw;(try dsimp only at hSw);go_simp;try with_reducible rfl)
 simp only [Act.put,List.setIfInBounds_toArray,List.set_cons_zero,List.set_cons_succ]
 refine wpAnyH_ready (rs:=[14]) (by kernel_rfl) (by simp) ?_
 refine AllReadyH.cons (o:=⟨some 67,.call ⟨.value (.func 24),#[.tmp 66],#[27]⟩,3, "law.go:68",#[⟨13,.data⟩,⟨12,.chain⟩,⟨12,.guard⟩],some (12,false)⟩) rfl (fun K1 hK1=>?_) AllReadyH.nil
 go_simp
 first
 | (go_at_call 24;(with_reducible refine (rsign_q g.qr (by decide) (by decide)).mono ?_);rintro e w_z ⟨rfl,hh⟩
    rw [HSC.out];(try replace hL:=hL.below hh);(try replace h:=h.below hh);(try replace XH:=XH.below hh);(try replace g:=g.below hh);(try replace XG:=XG.below hh);replace hb:=bend hb hh;replace hE:=EachH.belowR hE hh)
 refine hK1.out _ _ (by with_reducible exact ⟨XG.c0,XG.c1,XG.c2,XH.c0,XH.c1,XH.c2⟩) (fun hHeld=>?_)
 clear hK1 K1
 refine wpAnyH_take (i:=15) (oi:=⟨some 68,.binOp BinOp.lss 3 (.tmp 67) (.const (Value.int IntKind.i64 0)) 3,4, "law.go:68",#[⟨14,.data⟩,⟨12,.guard⟩],some (12,false)⟩) (v:=?_) rfl (by kernel_rfl) (by kernel_rfl) (by kernel_rfl) (fun _ _ _ h=>h) (Or.inl ⟨by rfl,?_⟩) hHeld ?_
 rotate_left
 · (intro w hSw;(try dsimp only at hSw);go_simp;try with_reducible rfl)
 simp only [Act.put,List.setIfInBounds_toArray,List.set_cons_zero,List.set_cons_succ]
 simp only [HSD.out]
 refine wpAnyH_take (i:=16) (oi:=⟨some 69,.pick (.tmp 65) (.const (Value.bool true)) (.tmp 68),4, "law.go:68",#[⟨12,.data⟩,⟨15,.data⟩],none⟩) (v:=?_) rfl (by kernel_rfl) (by kernel_rfl) (by kernel_rfl) (fun _ _ _ h=>h) (Or.inl ⟨by rfl,?_⟩) hHeld ?_
 rotate_left
 · (intro w hSw;(try dsimp only at hSw);go_simp;try with_reducible rfl)
 simp only [Act.put,List.setIfInBounds_toArray,List.set_cons_zero,List.set_cons_succ]
 refine wpAnyH_done (by kernel_rfl) ?_ _
 clear hHeld
 try clear m
 clear g h XG XH
 obtain ⟨P0,y0,hP0,hy0,p0⟩:=hE.at_ (i:=0) (by rw [HN.out];omega)
 obtain rfl:y0=fstH V:=Option.some.inj (hy0.symm.trans (fst_get (by rw [HVn.out];omega)))
 have HW0:Hid ((fstH V).w ≠ 0):=by have:=HG.out.2 _ (List.mem_of_getElem? hy0);show _ ≠ _;grind
 obtain ⟨g0,o0,hix0,E0,_⟩:=hL.ht hP0
 have hixa:∀ w',(Instr.indexAt 22 (.slice A n c) (.int .i64 0)).run Tryz.prog w'=.ok (.pointer (some ⟨g0,o0,none⟩)) w':=fun w'=>hix0 n c w' (by omega)
 have epl:=E0.ldH;clear hP0 hy0 hix0 E0
 go_upto_region 11 with (first
  | (go_at_call 19;(with_reducible refine (cpoint_p p0 (by decide) (by decide) HW0.out).mono ?_);rintro e w_x ⟨s_x,A_x,n_x,c_x,B_x,m_x,d_x,t_x,E_x,i_x,e_x,F_x,j_x,f_x,rfl,x,hh⟩
     (try replace hL:=hL.below hh);replace hb:=bend hb hh;replace hE:=EachH.belowR hE hh))
 clear epl hixa p0
 have XX:=B6.new' w_x (Value.bool s_x) (Value.slice A_x n_x c_x) (Value.slice B_x m_x d_x) (Value.bool t_x) (Value.slice E_x i_x e_x) (Value.slice F_x j_x f_x) w_x.heap.size rfl
 have hh:Below w_x.heap.size w_x (w_x.alloc (Obj.cells #[Value.bool s_x,Value.slice A_x n_x c_x,Value.slice B_x m_x d_x,Value.bool t_x,Value.slice E_x i_x e_x,Value.slice F_x j_x f_x] 49)):=(Below.refl w_x.heap.size w_x).alloc (Nat.le_refl _) _
 generalize (w_x.alloc (Obj.cells #[Value.bool s_x,Value.slice A_x n_x c_x,Value.slice B_x m_x d_x,Value.bool t_x,Value.slice E_x i_x e_x,Value.slice F_x j_x f_x] 49))=W3 at *
 replace hL:=hL.below hh;replace x:=x.below hh;replace hE:=EachH.belowR hE hh;replace hb:=bend hb hh;clear hh
 generalize w_x.heap.size=gX at *
 obtain ⟨P1,y1,hP1,hy1,p1⟩:=hE.at_ (i:=l) (by rw [HN.out];have:=HNL.out;omega)
 obtain rfl:y1=lstH V:=Option.some.inj (hy1.symm.trans (lst_get (by rw [HVn.out];exact HNL.out)))
 have HW1:Hid ((lstH V).w ≠ 0):=by have:=HG.out.2 _ (List.mem_of_getElem? hy1);show _ ≠ _;grind
 obtain ⟨g1,o1,hix1,E1,_⟩:=hL.ht hP1
 have hixb:∀ w',(Instr.indexAt 22 (.slice A n c) (.int .i64 (l:Int))).run Tryz.prog w'=.ok (.pointer (some ⟨g1,o1,none⟩)) w':=fun w'=>hix1 n c w' (by have:=HNL.out;omega)
 have epm:=E1.ldH;clear hP1 hy1 hix1 E1
 go_upto_region 12 with (first
  | (go_at_call 19;(with_reducible refine (cpoint_p p1 (by decide) (by decide) HW1.out).mono ?_);rintro e w_y ⟨s_y,A_y,n_y,c_y,B_y,m_y,d_y,t_y,E_y,i_y,e_y,F_y,j_y,f_y,rfl,y,hh⟩
     (try replace hL:=hL.below hh);(try replace x:=x.below hh);(try replace XX:=XX.below hh);replace hb:=bend hb hh;replace hE:=EachH.belowR hE hh))
 clear epm hixb p1
 have XY:=B6.new' w_y (Value.bool s_y) (Value.slice A_y n_y c_y) (Value.slice B_y m_y d_y) (Value.bool t_y) (Value.slice E_y i_y e_y) (Value.slice F_y j_y f_y) w_y.heap.size rfl
 have hh:Below w_y.heap.size w_y (w_y.alloc (Obj.cells #[Value.bool s_y,Value.slice A_y n_y c_y,Value.slice B_y m_y d_y,Value.bool t_y,Value.slice E_y i_y e_y,Value.slice F_y j_y f_y] 49)):=(Below.refl w_y.heap.size w_y).alloc (Nat.le_refl _) _
 generalize (w_y.alloc (Obj.cells #[Value.bool s_y,Value.slice A_y n_y c_y,Value.slice B_y m_y d_y,Value.bool t_y,Value.slice E_y i_y e_y,Value.slice F_y j_y f_y] 49))=W4 at *
 replace hL:=hL.below hh;replace x:=x.below hh;replace XX:=XX.below hh;replace y:=y.below hh;replace hE:=EachH.belowR hE hh;replace hb:=bend hb hh;clear hh
 generalize w_y.heap.size=gY at *
 obtain ⟨xx0,xx1,xx2,xx3,xx4,xx5⟩:=XX.all;obtain ⟨xy0,xy1,xy2,xy3,xy4,xy5⟩:=XY.all
 go_wp2_with (first
  | (go_at_call 21;(with_reducible refine (ptoseg_p x.pr x.pr y.pr (by decide) (by decide) (by decide) (by decide)).mono ?_);rintro e w_s ⟨s_s,A_s,n_s,c_s,B_s,m_s,d_s,rfl,s,hh⟩
     replace hb:=bend hb hh)
  | (go_at_call 24;(with_reducible refine (rsign_q s.qr (by decide) (by decide)).mono ?_);rintro e w_z ⟨rfl,hh⟩
     rw [HFA.out];replace hb:=bend hb hh)
  | (go_at_call 8;(with_reducible refine (wakes15_any _).mono ?_);rintro e w_z ⟨rfl,hh⟩
     replace hb:=bend hb hh))
 (try rw [Exit.noGoto_ret])
 go_ret;exact ⟨rfl,hb⟩
theorem fmore_p {A:Option Addr} {n c k8:Nat} {L:List HV} {V:List AH} (hL:SV w A (hvs L)) (hn:L.length=n) (hE:EachH HR w L V 4) (hs:(∀ p ∈ L,p.small 4)∧n≤6) (hk8:k8≤255) (hnc:n≤c) (hg:GoodH V) :
 Calls Tryz.prog 5 #[.slice A n c,.int .u8 (k8:Int)] w fun e w'=>e=.returned (.bool true)∧Below w.heap.size w w':=by
 by_cases hn2:n=2
 · exact fmore_2 hL hn hE hs hk8 hnc hg hn2
 · by_cases hr:gapQ V≤Rat.divInt ((k8 % 20:Nat):Int) 4*Rat.divInt ((k8 % 20:Nat):Int) 4
   · exact fmore_t hL hn hE hs hk8 hnc hg hn2 hr
   · exact fmore_n hL hn hE hs hk8 hnc hg hn2 hr
end
section
open Go Go.ChangeShapes Go.WideShapes Go.ChangeAt Go.RowKit
theorem open_rat3 {H:Type} {enc:TypeId × Value→H} {base fuel:Nat} {held:Bool} {x0 x1 x2:Value} {y:DataW H × List MemPlace}
 (h:DataW.trod enc Tryz.prog w base (fun _=>true) held fuel 27 [x0,x1,x2]=some y) :
 ∃ (q:QV) (zs ys:List Int),x0=.bool q.s∧x1=.slice q.A q.n q.c∧x2=.slice q.B q.m q.d∧IsRow64 w q.A q.n q.c zs∧IsRow64 w q.B q.m q.d ys:=by
 have e0:Tryz.prog.cellsOf 25=2:=by kernel_rfl
 have e1:Tryz.prog.cellsOf 23=1:=by kernel_rfl
 have e2:Tryz.prog.cellsOf 4=1:=by kernel_rfl
 obtain ⟨z0,z1,m,hx2,_,h2,h3⟩:=trod_struct2 Tryz.underlying27 h
 simp [e0] at h2
 simp [e1] at h3
 obtain ⟨u0,u1,k,hx4,_,h6,h7⟩:=trod_struct2 Tryz.underlying25 h2
 simp [e2] at h6
 simp [e1] at h7
 obtain ⟨b,hb,_⟩:=DataW.trod_bool Tryz.underlying4 h6
 cases hb
 obtain ⟨A1,n1,c1,zs1,rfl,r1⟩:∃ A n c zs,x1=.slice A n c∧IsRow64 w A n c zs:=by
  rcases open_ints Tryz.underlying23 Tryz.underlying74 (by kernel_rfl) h7 with ⟨hcs,_⟩ | ⟨x,l,c,zs,hcs,_,hl,hm,hz,_,hcell,hwz⟩
  · exact ⟨none,0,0,[],by cases hcs;rfl,.inl ⟨rfl,rfl,rfl,rfl⟩⟩
  · exact ⟨some x,l,c,zs,by cases hcs;rfl,.inr ⟨x,rfl,hl,hm,by simpa using hz,hcell,hwz⟩⟩
 obtain ⟨A2,n2,c2,zs2,rfl,r2⟩:∃ A n c zs,x2=.slice A n c∧IsRow64 w A n c zs:=by
  rcases open_ints Tryz.underlying23 Tryz.underlying74 (by kernel_rfl) h3 with ⟨hcs,_⟩ | ⟨x,l,c,zs,hcs,_,hl,hm,hz,_,hcell,hwz⟩
  · exact ⟨none,0,0,[],by cases hcs;rfl,.inl ⟨rfl,rfl,rfl,rfl⟩⟩
  · exact ⟨some x,l,c,zs,by cases hcs;rfl,.inr ⟨x,rfl,hl,hm,by simpa using hz,hcell,hwz⟩⟩
 exact ⟨⟨_,A1,n1,c1,A2,n2,c2⟩,zs1,zs2,rfl,rfl,rfl,r1,r2⟩
end
end Go.Proofs.YtlpogecpdfdggaaGreat
