/- CurveAt: part 15. -/
import Derived.Test.YtananlhdmekmjaaGreatKCurveAt11
import Derived.Test.YtananlhdmekmjaaGreatKCurveAt12
import Derived.Test.YtananlhdmekmjaaGreatKCurveAt13
import Derived.Test.YtananlhdmekmjaaGreatKCurveAt14
set_option linter.unusedVariables false
set_option maxRecDepth 100000
set_option maxHeartbeats 16000000
variable {w:Go.World}
variable {s_p t_p:Bool} {A_p B_p E_p F_p:Option Go.Addr} {n_p c_p m_p d_p i_p e_p j_p f_p:Nat}
namespace Go.Proofs.YtananlhdmekmjaaGreat
section
open Go Go.RowKit
attribute [local go_sem] Oper.semAt_some
attribute [local go_sem ↓] open_LVH open_STH open_LVJ open_STJ
def lenS:Value→Nat
 | .slice _ n _=>n
 | _=>0
theorem B3.kp {W W':World} {g:Nat} {s:Bool} {y z:Value} (h:B3 W g (.bool s) y z) (hk:KpS W W'):B3 W' g (.bool s) y z :=
 (hk.same g 0 _ h.c0 (fun _ _ _ e=>by cases e)).trans h
theorem grown_below {W W':World} (hb:Below W.heap.size W W'):W.grownBy W' none:=⟨hb.os,hb.tape,hb.output,hb.size,fun i hi _=>hb.block i hi⟩
theorem rows1_in (d:Nat) (hd:2≤d) (l Bl Bt:Nat) {s:Bool} {A A1 A2:Option Addr} {n c n1 c1 n2 c2 k kt:Nat} {vt:Rat} {L:List HV} {V:List AH} (hn1:1≤n) (hm:n≤1000) (hk:kRow k kt (n - 1)≤10000) (ht:kt≤1000) (h1:1≤k) (h2:1≤kt) (J:List RowX→World→Prop)
 (hY:∀ pre x W,J pre W→RowX.In x W→pre.length < n→YieldAt Fence.wide (d - 1) Tryz.prog l (RowX.encs x) W fun e W'=>e=.returned (.bool true)∧J (pre ++ [x]) W'∧KpS W W')
 (W:World) (hJ:AbidesFrom W.heap.size J) (hBl:Boxed W Bl 37 (.slice A n c)) (XT:B3 W Bt (.bool s) (.slice A1 n1 c1) (.slice A2 n2 c2)) (hL:SV W A (hvs L)) (hE:EachH HR W L V k) (hn:L.length=n) (q:QR W s A1 n1 c1 A2 n2 c2 vt kt) (h0:J [] W) :
 CallsIn Fence.wide d Tryz.prog 98 #[.func (.yield l) #[] #[],.pointer (some ⟨Bl,0,none⟩),.pointer (some ⟨Bt,0,none⟩)] W fun e W'=>(∃ v,e=.returned v)∧∃ xs,J xs W'∧LastRow vt V kt k xs W':=by
 have hd1:1≤d:=by omega
 have hc0:=hBl.cell
 have hVl:V.length=n:=hE.1.symm.trans hn
 have HV9:=Lib.hid hVl;have HN:=Lib.hid hn;have X9:=Lib.hid XT;have L9:=Lib.hid hL;have E9:=Lib.hid hE;have Q9:=Lib.hid q;clear hBl hVl hn XT hL hE q
 refine callsIn_of_wp Tryz.func98 rfl trivial ?_ rfl
 simp only [Tryz.ntmps98,List.size_toArray,List.length_cons,List.length_nil,Nat.reduceAdd,Nat.reduceSub,Array.replicate_succ,Array.replicate_zero,List.push_toArray,List.append_toArray,List.nil_append,List.cons_append]
 gi_wp2
 gi_loopw [4] (fun row wr=>∃ (pre:List RowX) (j n' c':Nat) (A':Option Addr) (L':List HV),row=.slice A' n' c'∧Hid (j+n'=n)∧Hid (SV wr A' (hvs L'))∧Hid (EachH HR wr L' (rowN vt j V) (kRow k kt j))∧Hid (L'.length=n')∧Hid (pre.length=j)∧Hid (j=0 ∨ ∃ x:RowX,pre.getLast?=some x∧x.In wr∧x.V=rowN vt (j - 1) V∧x.k=kRow k kt (j - 1))∧Hid (B3 wr Bt (.bool s) (.slice A1 n1 c1) (.slice A2 n2 c2))∧Hid (QR wr s A1 n1 c1 A2 n2 c2 vt kt)∧J pre wr)
  (fun row _=>lenS row)
 case atStart=>exact ⟨[],0,n,c,A,L,rfl,Nat.zero_add _,L9.out,E9.out,HN.out,rfl,.inl rfl,X9.out,Q9.out,h0⟩
 case round =>
  obtain ⟨pre,j,n',c',A',L',rfl,HJ,HL,HE,HNL,HP,HLast,HX,HQ,hJs⟩:=hrel
  by_cases hz:0 < n'
  · have hz':(0:Int) < (n':Int):=by omega
    obtain ⟨x,hx⟩:∃ x:RowX,x=⟨A',n',c',L',rowN vt j V,kRow k kt j⟩:=⟨_,rfl⟩
    have hin:x.In wr:=by rw [hx];exact ⟨HL.out,HE.out,HNL.out⟩
    have hxe:RowX.encs x=#[.slice A' n' c']:=by rw [hx];rfl
    have hxv:x.V=rowN vt j V∧x.k=kRow k kt j:=by rw [hx];exact ⟨rfl,rfl⟩
    have hjn:j < n:=by have:=HJ.out;omega
    have hY1:=hY pre x wr hJs hin (by rw [HP.out];exact hjn)
    obtain ⟨fn,tmps,assign,body,hy,hRR⟩:=hY1
    rw [hxe] at hy;have HXV:=Lib.hid hxv;have HIN:=Lib.hid hin;have HZ:=Lib.hid hz;have HJN:=Lib.hid hjn;clear hxe hx hxv hin hz hjn
    gi_wp2
    refine hRR.mono ?_
    rintro e W3 ⟨rfl,hJ3,hk3⟩
    have XT:=HX.out.kp hk3;have q:=HQ.out.kp hk3;have hL3:=HL.out.kp hk3
    have hE3:EachH HR W3 L' (rowN vt j V) (kRow k kt j):=HE.out.imp fun _ _ hp=>hp.kp hk3
    have HI3:Hid (x.In W3):=HIN.out.kp hk3
    obtain ⟨xt0,xt1,xt2⟩:=XT.all
    have hkj:kRow k kt j≤10000:=Nat.le_trans (kRow_le (by have:=HJN.out;omega)) hk
    have hk1:1≤kRow k kt j:=kRow_pos h1
    have HXT:=Lib.hid XT;have HL3:=Lib.hid hL3;have HE3:=Lib.hid hE3
    have hn'1:1≤n':=HZ.out
    have hn'2:n'≤1000:=by have:=HJ.out;omega
    clear XT hL3 hE3 hk3 HX HQ HL HE
    gi_wp2_with (refine ⟨trivial,?_⟩;gi_at_call 99;refine (callsIn_wide.2 (cbelow_hs HL3.out HE3.out HNL.out q hn'1 hn'2 hkj ht hk1 h2)).mono ?_;rintro e W4 ⟨v,M,rfl,hlM,heM,hb⟩;obtain ⟨A'',c'',rfl,_,_⟩:=hlM.form)
    go_roundw
    case rel =>
     have hMl:M.length+1=n':=by have h5:=heM.1;rw [rowB_length,rowN_length,HV9.out] at h5;have h6:=HJ.out;omega
     refine ⟨pre ++ [x],j+1,_,_,_,M,rfl,?_,hlM.sv,?_,rfl,?_,.inr ⟨x,by simp,HI3.out.below hb,HXV.out⟩,HXT.out.below hb,q.below hb,hJ _ _ _ none hJ3 (grown_below hb) (fun r e=>by cases e)⟩
     · have h6:=HJ.out;show _=_;omega
     · show EachH HR W4 M (rowN vt (j+1) V) (kRow k kt (j+1))
       rw [rowN_succ];exact heM.hr
     · show (pre ++ [x]).length=j+1
       rw [List.length_append,HP.out];rfl
    case measure =>
     have hMl:M.length+1=n':=by have h5:=heM.1;rw [rowB_length,rowN_length,HV9.out] at h5;have h6:=HJ.out;omega
     simp only [lenS];omega
  · have hz':¬ (0:Int) < (n':Int):=by omega
    have HZ:=Lib.hid hz;clear hz
    gi_wp2
    refine ⟨fun _ h=>(by cases h),?_⟩
    gi_wp2
    go_end0
    refine ⟨⟨_,rfl⟩,pre,hJs,?_⟩
    have h6:=HJ.out;have h7:=HZ.out
    rcases HLast.out with h | ⟨x,x1,x2,x3,x4⟩
    · omega
    · have e:j=V.length:=by rw [HV9.out];omega
      rw [e] at x3 x4
      exact ⟨x,x1,x2,x3,x4⟩
theorem rows_tells (d:Nat) (hd:2≤d) (Bl Bt:Nat) {s:Bool} {A A1 A2:Option Addr} {n c n1 c1 n2 c2 k kt:Nat} {vt:Rat} {L:List HV} {V:List AH} (hn1:1≤n) (hm:n≤1000) (hk:kRow k kt (n - 1)≤10000) (ht:kt≤1000) (h1:1≤k) (h2:1≤kt) (w:World) (hBl:Boxed w Bl 37 (.slice A n c)) (XT:B3 w Bt (.bool s) (.slice A1 n1 c1) (.slice A2 n2 c2)) (hL:SV w A (hvs L)) (hE:EachH HR w L V k) (hn:L.length=n) (q:QR w s A1 n1 c1 A2 n2 c2 vt kt) :
 SeqTells d 98 #[.pointer (some ⟨Bl,0,none⟩),.pointer (some ⟨Bt,0,none⟩)] RowX.encs KpS RowX.In (LastRow vt V kt k) n w:=fun l J W hW hJ hY h0 =>
 rows1_in d hd l Bl Bt hn1 hm hk ht h1 h2 J hY W hJ ((hW.block Bl hBl.lt).trans hBl) (XT.below hW) (hL.below hW) (hE.belowR hW) hn (q.below hW) h0
theorem rows_any {s:Bool} {A A1 A2:Option Addr} {n c n1 c1 n2 c2:Nat} (w:World):Calls Tryz.prog 56 #[.slice A n c,.agg #[.bool s,.slice A1 n1 c1,.slice A2 n2 c2]] w fun e w'=>e=.returned (.func (.func 98) #[] #[.pointer (some ⟨w.heap.size,0,none⟩),.pointer (some ⟨w.heap.size+1,0,none⟩)])∧w'=(w.alloc (.cells #[.slice A n c] 37)).alloc (.cells #[.bool s,.slice A1 n1 c1,.slice A2 n2 c2] 26):=by
 go_enter Tryz.func56,Tryz.ntmps56
 go_wp2
 go_ret
 exact ⟨rfl,rfl⟩
end
section
open Go Go.RowKit
attribute [local go_sem] Oper.semAt_some
attribute [local go_sem ↓] open_LVH open_STH open_LVJ open_STJ
theorem QG.kp {W W':World} {s:Bool} {A B:Option Addr} {n c m d k:Nat} {v:Rat} (h:QG W s A n c B m d v k) (hk:KpS W W'):QG W' s A n c B m d v k:=⟨⟨h.1.1,h.1.2.1.kp hk,h.1.2.2⟩,⟨h.2.1.kp hk,h.2.2⟩⟩
theorem PG.kp {W W':World} {s t:Bool} {A B E F:Option Addr} {n c m d i e j f k:Nat} {x y:Rat} (h:PG W s A n c B m d t E i e F j f x y k) (hk:KpS W W'):PG W' s A n c B m d t E i e F j f x y k:=⟨h.1.kp hk,h.2.kp hk⟩
theorem cgood_any {A:Option Addr} {n c k:Nat} {L:List HV} {V:List AH} (hL:SV w A (hvs L)) (hE:EachH HR w L V k) (hn:L.length=n) (hk:k≤90000) (h1:1≤k) (R:Bool) (hR:R=true ↔ GoodH V) :
 Calls Tryz.prog 30 #[.slice A n c] w fun e w'=>e=.returned (.bool R)∧Below w.heap.size w w':=by
 have hv:V.length=n:=hE.1.symm.trans hn
 by_cases h2:n < 2
 · obtain rfl : R = false := by
     cases R with
     | false=>rfl
     | true=>have:=(hR.1 rfl).1;omega
   exact cgood_s h2
 · by_cases h4:4 < n
   · obtain rfl : R = false := by
       cases R with
       | false=>rfl
       | true=>have:=(hR.1 rfl).1;omega
     exact cgood_l h4
   · refine cgood_w hL hE hn (by omega) (by omega) hk h1 R (hR.trans ⟨fun h=>h.2,fun h=>⟨⟨by omega,by omega⟩,h⟩⟩)
theorem mkbx42_15 {w W:World} {x0 x1 x2 x3 x4 x5 x6 x7 x8:Value} (h:((w.alloc (Obj.cells #[x0,x1,x2] 26)).alloc (Obj.cells #[x3,x4,x5,x6,x7,x8] 28))=W):Below w.heap.size w W∧B3 W (w.heap.size) x0 x1 x2∧B6 W (w.heap.size+1) x3 x4 x5 x6 x7 x8∧W.heap.size=w.heap.size+2:=by subst h;exact ⟨by exact (((Below.refl _ _).alloc (Nat.le_refl _) _).alloc (by simp) _),by exact (B3.new' _ _ _ _ _ rfl).alloc _,by exact B6.new' _ _ _ _ _ _ _ _ (by simp),by simp⟩
theorem cat_f {A A1 A2:Option Addr} {n c n1 c1 n2 c2 k kt:Nat} {s:Bool} {L:List HV} {V:List AH} {vt:Rat} (hL:SV w A (hvs L)) (hE:EachH HR w L V k) (hn:L.length=n) (q:QR w s A1 n1 c1 A2 n2 c2 vt kt) (hk:k≤10000) (_ht:kt≤1000) (h1:1≤k) (_h2:1≤kt) (hG:false=true ↔ GoodH V) :
 Calls Tryz.prog 21 #[.slice A n c,.agg #[.bool s,.slice A1 n1 c1,.slice A2 n2 c2]] w (GivesPtN w 11):=by
 have hkG:k≤90000:=by omega
 have HG:=Lib.hid hG;have HN:=Lib.hid hn;clear hG hn
 go_enter Tryz.func21,Tryz.ntmps21
 go_upto_region 1 with (fail)
 generalize hW:World.alloc _ _=W
 obtain ⟨hb,XT,Z,hzW⟩:=mkbx42_15 hW;clear hW;replace hL:=hL.below hb;replace q:=q.below hb;replace hE:=EachH.belowR hE hb
 go_upto_region 2 with (first
  | (go_at_call 30;(with_reducible refine (cgood_any hL hE HN.out hkG h1 false HG.out).mono ?_);rintro e w_g ⟨rfl,hh⟩
     (try replace hL:=hL.below hh);(try replace q:=q.below hh);(try replace XT:=XT.below hh);(try replace Z:=Z.below hh);replace hb:=bend hb hh;replace hE:=EachH.belowR hE hh))
 have zg0:=Z.f0;have zg1:=Z.f1;have zg2:=Z.f2;have zg3:=Z.f3;have zg4:=Z.f4;have zg5:=Z.f5;obtain ⟨zc0,zc1,zc2,zc3,zc4,zc5⟩:=Z.all
 go_wp2_with fail
 have Z2:=Z.set6 (.bool false) (.slice none 0 0) (.slice none 0 0) (.bool false) (.slice none 0 0) (.slice none 0 0)
 obtain ⟨g0,g1,g2,g3,g4,g5⟩:=Z2.all
 refine bodyPost_ret (v:=.tuple #[.agg #[.bool false,.slice none 0 0,.slice none 0 0,.bool false,.slice none 0 0,.slice none 0 0],.int .i64 11]) (by rw [results_cell_tmp Tryz.results21];simp [go_sem,asAddr,Result.andThen,g0,g1,g2,g3,g4,g5]) rfl ?_
 exact ⟨rfl,below_set6 hb (by omega) _ _ _ _ _ _⟩
theorem cat_n {A A1 A2:Option Addr} {n c n1 c1 n2 c2 k kt:Nat} {s:Bool} {L:List HV} {V:List AH} {vt:Rat} (hL:SV w A (hvs L)) (hE:EachH HR w L V k) (hn:L.length=n) (q:QR w s A1 n1 c1 A2 n2 c2 vt kt) (hk:k≤10000) (ht:kt≤1000) (h1:1≤k) (h2:1≤kt) (hG:true=true ↔ GoodH V) (hT:vt < 0) :
 Calls Tryz.prog 21 #[.slice A n c,.agg #[.bool s,.slice A1 n1 c1,.slice A2 n2 c2]] w (GivesPtN w 1):=by
 have HT:Hid (sgnQ vt=-1):=by show _=_;unfold sgnQ;rw [if_pos hT]
 clear hT
 have hkG:k≤90000:=by omega
 have HG:=Lib.hid hG;have HN:=Lib.hid hn;clear hG hn
 go_enter Tryz.func21,Tryz.ntmps21
 go_upto_region 1 with (fail)
 generalize hW:World.alloc _ _=W
 obtain ⟨hb,XT,Z,hzW⟩:=mkbx42_15 hW;clear hW;replace hL:=hL.below hb;replace q:=q.below hb;replace hE:=EachH.belowR hE hb
 go_upto_region 3 with (first
  | (go_at_call 30;(with_reducible refine (cgood_any hL hE HN.out hkG h1 true HG.out).mono ?_);rintro e w_g ⟨rfl,hh⟩
     (try replace hL:=hL.below hh);(try replace q:=q.below hh);(try replace XT:=XT.below hh);(try replace Z:=Z.below hh);replace hb:=bend hb hh;replace hE:=EachH.belowR hE hh))
 replace hL:=hL.below (Below.refl _ _).drew
 replace q:=q.below (Below.refl _ _).drew
 replace XT:=XT.below (Below.refl _ _).drew
 replace Z:=Z.below (Below.refl _ _).drew
 replace hb:=hb.drew
 replace hE:=EachH.belowR hE (Below.refl _ _).drew
 refine wp_region_held_drew (S:=(fun w'=>w'.cell? ⟨w.heap.size,0,none⟩=some (.bool s)∧w'.cell? ⟨w.heap.size,1,none⟩=some (.slice A1 n1 c1)∧w'.cell? ⟨w.heap.size,2,none⟩=some (.slice A2 n2 c2))) (by kernel_rfl) (by with_reducible exact ⟨XT.c0,XT.c1,XT.c2⟩) (fun hHeld=>?_)
 refine wpAnyH_take (i:=0) (oi:=⟨some 12,.load 26 (.tmp 3),26, "curve.go:79",#[],none⟩) (v:=?_) rfl (by kernel_rfl) (by kernel_rfl) (by kernel_rfl) (fun _ _ _ h=>h) (Or.inl ⟨by rfl,?_⟩) hHeld ?_
 rotate_left
 · (intro w hSw;(try dsimp only at hSw);go_simp;try with_reducible rfl)
 simp only [Act.put,List.setIfInBounds_toArray,List.set_cons_zero,List.set_cons_succ]
 refine wpAnyH_ready (rs:=[1]) (by kernel_rfl) (by simp) ?_
 refine AllReadyH.cons (o:=⟨some 13,.call ⟨.value (.func 55),#[.tmp 12],#[26]⟩,3, "curve.go:79",#[⟨0,.data⟩],none⟩) rfl (fun K1 hK1=>?_) AllReadyH.nil
 go_simp
 first
 | (go_at_call 55;(with_reducible refine (rsign_q q (by omega) h2).mono ?_);rintro e w_s ⟨rfl,hh⟩
    rw [HT.out];(try replace hL:=hL.below hh);(try replace q:=q.below hh);(try replace XT:=XT.below hh);(try replace Z:=Z.below hh);replace hb:=bend hb hh;replace hE:=EachH.belowR hE hh)
 refine hK1.out _ _ (by with_reducible exact ⟨XT.c0,XT.c1,XT.c2⟩) (fun hHeld=>?_)
 clear hK1 K1
 refine wpAnyH_take (i:=2) (oi:=⟨some 14,.binOp BinOp.lss 3 (.tmp 13) (.const (Value.int IntKind.i64 0)) 3,4, "curve.go:79",#[⟨1,.data⟩],none⟩) (v:=?_) rfl (by kernel_rfl) (by kernel_rfl) (by kernel_rfl) (fun _ _ _ h=>h) (Or.inl ⟨by rfl,?_⟩) hHeld ?_
 rotate_left
 · (intro w hSw;(try dsimp only at hSw);go_simp;try with_reducible rfl)
 simp only [Act.put,List.setIfInBounds_toArray,List.set_cons_zero,List.set_cons_succ]
 refine wpAnyH_take (i:=3) (oi:=⟨some 15,.move (.tmp 14),4, "curve.go:79",#[⟨2,.data⟩,⟨1,.chain⟩],none⟩) (v:=?_) rfl (by kernel_rfl) (by kernel_rfl) (by kernel_rfl) (fun _ _ _ h=>h) (Or.inl ⟨by rfl,?_⟩) hHeld ?_
 rotate_left
 · (intro w hSw;(try dsimp only at hSw);go_simp;try with_reducible rfl)
 simp only [Act.put,List.setIfInBounds_toArray,List.set_cons_zero,List.set_cons_succ]
 refine wpAnyH_take (i:=4) (oi:=⟨some 16,.load 26 (.tmp 3),26, "curve.go:79",#[⟨3,.guard⟩],some (3,false)⟩) (v:=undef) rfl (by kernel_rfl) (by kernel_rfl) (by kernel_rfl) (fun _ _ _ h=>h) (Or.inr ⟨by rfl,rfl⟩) hHeld ?_
 simp only [Act.put,List.setIfInBounds_toArray,List.set_cons_zero,List.set_cons_succ]
 refine wpAnyH_take (i:=5) (oi:=⟨some 17,.call ⟨.value (.func 43),#[],#[]⟩,26, "curve.go:79",#[⟨3,.chain⟩,⟨3,.guard⟩],some (3,false)⟩) (v:=undef) rfl (by kernel_rfl) (by kernel_rfl) (by kernel_rfl) (fun _ _ _ h=>h) (Or.inr ⟨by rfl,rfl⟩) hHeld ?_
 simp only [Act.put,List.setIfInBounds_toArray,List.set_cons_zero,List.set_cons_succ]
 refine wpAnyH_take (i:=6) (oi:=⟨some 18,.call ⟨.value (.func 35),#[.tmp 16,.tmp 17],#[26,26]⟩,3, "curve.go:79",#[⟨4,.data⟩,⟨5,.data⟩,⟨5,.chain⟩,⟨3,.guard⟩],some (3,false)⟩) (v:=undef) rfl (by kernel_rfl) (by kernel_rfl) (by kernel_rfl) (fun _ _ _ h=>h) (Or.inr ⟨by rfl,rfl⟩) hHeld ?_
 simp only [Act.put,List.setIfInBounds_toArray,List.set_cons_zero,List.set_cons_succ]
 refine wpAnyH_take (i:=7) (oi:=⟨some 19,.binOp BinOp.gtr 3 (.tmp 18) (.const (Value.int IntKind.i64 0)) 3,4, "curve.go:79",#[⟨6,.data⟩,⟨3,.guard⟩],some (3,false)⟩) (v:=undef) rfl (by kernel_rfl) (by kernel_rfl) (by kernel_rfl) (fun _ _ _ h=>h) (Or.inr ⟨by rfl,rfl⟩) hHeld ?_
 simp only [Act.put,List.setIfInBounds_toArray,List.set_cons_zero,List.set_cons_succ]
 refine wpAnyH_take (i:=8) (oi:=⟨some 20,.pick (.tmp 15) (.const (Value.bool true)) (.tmp 19),4, "curve.go:79",#[⟨3,.data⟩,⟨7,.data⟩],none⟩) (v:=?_) rfl (by kernel_rfl) (by kernel_rfl) (by kernel_rfl) (fun _ _ _ h=>h) (Or.inl ⟨by rfl,?_⟩) hHeld ?_
 rotate_left
 · (intro w hSw;(try dsimp only at hSw);go_simp;try with_reducible rfl)
 simp only [Act.put,List.setIfInBounds_toArray,List.set_cons_zero,List.set_cons_succ]
 refine wpAnyH_done (by kernel_rfl) ?_ _
 have zg0:=Z.f0;have zg1:=Z.f1;have zg2:=Z.f2;have zg3:=Z.f3;have zg4:=Z.f4;have zg5:=Z.f5;obtain ⟨zc0,zc1,zc2,zc3,zc4,zc5⟩:=Z.all
 go_wp2_with fail
 have Z2:=Z.set6 (.bool false) (.slice none 0 0) (.slice none 0 0) (.bool false) (.slice none 0 0) (.slice none 0 0)
 obtain ⟨g0,g1,g2,g3,g4,g5⟩:=Z2.all
 refine bodyPost_ret (v:=.tuple #[.agg #[.bool false,.slice none 0 0,.slice none 0 0,.bool false,.slice none 0 0,.slice none 0 0],.int .i64 1]) (by rw [results_cell_tmp Tryz.results21];simp [go_sem,asAddr,Result.andThen,g0,g1,g2,g3,g4,g5]) rfl ?_
 exact ⟨rfl,below_set6 hb (by omega) _ _ _ _ _ _⟩
theorem cmp_gt {x y:Rat} (h:y < x):cmpQ x y=1:=by unfold cmpQ;rw [if_neg (by grind),if_pos (by grind)]
theorem cmp_le {x y:Rat} (h:x≤y):cmpQ x y≤0:=by
 unfold cmpQ
 by_cases q:x < y
 · rw [if_pos q];decide
 · rw [if_neg q,if_neg (by grind)];decide
theorem cvsgn_nn {v:Rat} (h:0≤v):sgnQ v=0 ∨ sgnQ v=1:=by
 unfold sgnQ
 rw [if_neg (by grind)]
 by_cases q:v=0
 · rw [if_pos q];exact .inl rfl
 · rw [if_neg q];exact .inr rfl
theorem cat_g1 {A A1 A2:Option Addr} {n c n1 c1 n2 c2 k kt:Nat} {s:Bool} {L:List HV} {V:List AH} {vt:Rat} (hL:SV w A (hvs L)) (hE:EachH HR w L V k) (hn:L.length=n) (q:QR w s A1 n1 c1 A2 n2 c2 vt kt) (hk:k≤10000) (ht:kt≤1000) (h1:1≤k) (h2:1≤kt) (hG:true=true ↔ GoodH V) (hT:sgnQ vt=1) (hT1:1 < vt) :
 Calls Tryz.prog 21 #[.slice A n c,.agg #[.bool s,.slice A1 n1 c1,.slice A2 n2 c2]] w (GivesPtN w 1):=by
 have HT:=Lib.hid hT
 have HC:Hid (cmpQ vt (Rat.divInt 1 1)=1):=by show _=_;rw [one_q];exact cmp_gt hT1
 clear hT hT1
 have hkG:k≤90000:=by omega
 have HG:=Lib.hid hG;have HN:=Lib.hid hn;clear hG hn
 go_enter Tryz.func21,Tryz.ntmps21
 go_upto_region 1 with (fail)
 generalize hW:World.alloc _ _=W
 obtain ⟨hb,XT,Z,hzW⟩:=mkbx42_15 hW;clear hW;replace hL:=hL.below hb;replace q:=q.below hb;replace hE:=EachH.belowR hE hb
 go_upto_region 3 with (first
  | (go_at_call 30;(with_reducible refine (cgood_any hL hE HN.out hkG h1 true HG.out).mono ?_);rintro e w_g ⟨rfl,hh⟩
     (try replace hL:=hL.below hh);(try replace q:=q.below hh);(try replace XT:=XT.below hh);(try replace Z:=Z.below hh);replace hb:=bend hb hh;replace hE:=EachH.belowR hE hh))
 replace hL:=hL.below (Below.refl _ _).drew
 replace q:=q.below (Below.refl _ _).drew
 replace XT:=XT.below (Below.refl _ _).drew
 replace Z:=Z.below (Below.refl _ _).drew
 replace hb:=hb.drew
 replace hE:=EachH.belowR hE (Below.refl _ _).drew
 go_region_held3 (fun w'=>w'.cell? ⟨w.heap.size,0,none⟩=some (.bool s)∧w'.cell? ⟨w.heap.size,1,none⟩=some (.slice A1 n1 c1)∧w'.cell? ⟨w.heap.size,2,none⟩=some (.slice A2 n2 c2))
  (first | with_reducible exact ⟨XT.c0,XT.c1,XT.c2⟩)
  (first
  | (go_at_call 55;(with_reducible refine (rsign_q q (by omega) h2).mono ?_);rintro e w_s ⟨rfl,hh⟩
     rw [HT.out];(try replace hL:=hL.below hh);(try replace q:=q.below hh);(try replace XT:=XT.below hh);(try replace Z:=Z.below hh);replace hb:=bend hb hh;replace hE:=EachH.belowR hE hh)
  | (go_at_call 43;(with_reducible refine (cone_q _).mono ?_);rintro e w_o ⟨s_o,A_o,n_o,c_o,B_o,m_o,d_o,rfl,o,hh⟩
     (try replace hL:=hL.below hh);(try replace q:=q.below hh);(try replace XT:=XT.below hh);(try replace Z:=Z.below hh);replace hb:=bend hb hh;replace hE:=EachH.belowR hE hh)
  | (go_at_call 35;(with_reducible refine (rcmp_q q o.qr (by omega) (by decide) (.inr (by decide)) h2 (by decide)).mono ?_);rintro e w_c ⟨rfl,hh⟩
     rw [HC.out];(try replace hL:=hL.below hh);(try replace q:=q.below hh);(try replace XT:=XT.below hh);(try replace Z:=Z.below hh);(try replace o:=o.below hh);replace hb:=bend hb hh;replace hE:=EachH.belowR hE hh;clear o))
 have zg0:=Z.f0;have zg1:=Z.f1;have zg2:=Z.f2;have zg3:=Z.f3;have zg4:=Z.f4;have zg5:=Z.f5;obtain ⟨zc0,zc1,zc2,zc3,zc4,zc5⟩:=Z.all
 go_wp2_with fail
 have Z2:=Z.set6 (.bool false) (.slice none 0 0) (.slice none 0 0) (.bool false) (.slice none 0 0) (.slice none 0 0)
 obtain ⟨g0,g1,g2,g3,g4,g5⟩:=Z2.all
 refine bodyPost_ret (v:=.tuple #[.agg #[.bool false,.slice none 0 0,.slice none 0 0,.bool false,.slice none 0 0,.slice none 0 0],.int .i64 1]) (by rw [results_cell_tmp Tryz.results21];simp [go_sem,asAddr,Result.andThen,g0,g1,g2,g3,g4,g5]) rfl ?_
 exact ⟨rfl,below_set6 hb (by omega) _ _ _ _ _ _⟩
theorem cat_p0 {A A1 A2:Option Addr} {n c n1 c1 n2 c2 k kt:Nat} {s:Bool} {L:List HV} {V:List AH} {vt:Rat} (hL:SV w A (hvs L)) (hE:EachH HR w L V k) (hn:L.length=n) (q:QR w s A1 n1 c1 A2 n2 c2 vt kt) (hk:kRow k kt (n - 1)≤10000) (ht:kt≤1000) (h1:1≤k) (h2:1≤kt) (hG:GoodH V) (hT0:0≤vt) (hT1:vt≤1) (hT:sgnQ vt=0) :
 Calls Tryz.prog 21 #[.slice A n c,.agg #[.bool s,.slice A1 n1 c1,.slice A2 n2 c2]] w (GivesPtE w (bez vt V).px (bez vt V).py (kRow k kt (n - 1)+(1+kRow k kt (n - 1)))):=by
 have hk0:k≤10000:=Nat.le_trans (kRow_le (Nat.zero_le _)) hk
 have HT:=Lib.hid hT
 obtain ⟨C,hC,hC0⟩:∃ C,cmpQ vt (Rat.divInt 1 1)=C∧¬ 0 < C:=⟨_,rfl,by rw [one_q];have:=cmp_le hT1;omega⟩
 have HC:=Lib.hid hC
 have HW:Hid (0 < (bez vt V).w):=bez_w (by have:=hG.1;omega) hT0 hT1 hG.2
 have HG:Hid (true=true ↔ GoodH V):=⟨fun _=>hG,fun _=>rfl⟩
 have hkG:k≤90000:=by omega
 have hn2:2≤n∧n≤4:=by rw [← hn,hE.1];exact hG.1
 have HVn:Hid (V.length=n):=hE.1.symm.trans hn
 have HN:=Lib.hid hn;clear hC hT hT0 hT1 hG hn
 refine (callsIn_wide (n:=9)).1 ?_
 refine callsIn_of_wp_marks Tryz.func21 rfl trivial ?_ rfl
 refine wpIn_wide.2 ?_
 simp only [Tryz.ntmps21,List.size_toArray,List.length_cons,List.length_nil,Nat.reduceAdd,Nat.reduceSub,Array.replicate_succ,Array.replicate_zero,List.push_toArray,List.append_toArray,List.nil_append,List.cons_append]
 go_upto_region 1 with (fail)
 generalize hW:World.alloc _ _=W
 obtain ⟨hb,XT,Z,hzW⟩:=mkbx42_15 hW;clear hW;replace hL:=hL.below hb;replace q:=q.below hb;replace hE:=EachH.belowR hE hb
 go_upto_region 3 with (first
  | (go_at_call 30;(with_reducible refine (cgood_any hL hE HN.out hkG h1 true HG.out).mono ?_);rintro e w_g ⟨rfl,hh⟩
     (try replace hL:=hL.below hh);(try replace q:=q.below hh);(try replace XT:=XT.below hh);(try replace Z:=Z.below hh);replace hb:=bend hb hh;replace hE:=EachH.belowR hE hh))
 replace hL:=hL.below (Below.refl _ _).drew
 replace q:=q.below (Below.refl _ _).drew
 replace XT:=XT.below (Below.refl _ _).drew
 replace Z:=Z.below (Below.refl _ _).drew
 replace hb:=hb.drew
 replace hE:=EachH.belowR hE (Below.refl _ _).drew
 go_region_held3 (fun w'=>w'.cell? ⟨w.heap.size,0,none⟩=some (.bool s)∧w'.cell? ⟨w.heap.size,1,none⟩=some (.slice A1 n1 c1)∧w'.cell? ⟨w.heap.size,2,none⟩=some (.slice A2 n2 c2))
  (first | with_reducible exact ⟨XT.c0,XT.c1,XT.c2⟩)
  (first
  | (go_at_call 55;(with_reducible refine (rsign_q q (by omega) h2).mono ?_);rintro e w_s ⟨rfl,hh⟩
     rw [HT.out];(try replace hL:=hL.below hh);(try replace q:=q.below hh);(try replace XT:=XT.below hh);(try replace Z:=Z.below hh);replace hb:=bend hb hh;replace hE:=EachH.belowR hE hh)
  | (go_at_call 43;(with_reducible refine (cone_q _).mono ?_);rintro e w_o ⟨s_o,A_o,n_o,c_o,B_o,m_o,d_o,rfl,o,hh⟩
     (try replace hL:=hL.below hh);(try replace q:=q.below hh);(try replace XT:=XT.below hh);(try replace Z:=Z.below hh);replace hb:=bend hb hh;replace hE:=EachH.belowR hE hh)
  | (go_at_call 35;(with_reducible refine (rcmp_q q o.qr (by omega) (by decide) (.inr (by decide)) h2 (by decide)).mono ?_);rintro e w_c ⟨rfl,hh⟩
     rw [HC.out];(try replace hL:=hL.below hh);(try replace q:=q.below hh);(try replace XT:=XT.below hh);(try replace Z:=Z.below hh);(try replace o:=o.below hh);replace hb:=bend hb hh;replace hE:=EachH.belowR hE hh;clear o))
 go_upto_region 6 with (fail)
 have bL:=Boxed.new w_c 37 (.slice none 0 0)
 have hal:Below w_c.heap.size w_c (w_c.alloc (.cells #[.slice none 0 0] 37)):=(Below.refl _ _).alloc (Nat.le_refl _) _
 replace hL:=hL.below hal;replace q:=q.below hal;have hzl:=XT.lt;have hzz:=Z.lt;replace XT:=XT.below hal;replace Z:=Z.below hal;replace hE:=EachH.belowR hE hal;have hb5:=bend hb hal
 have hsz5:(w_c.alloc (.cells #[.slice none 0 0] 37)).heap.size=w_c.heap.size+1:=World.size_alloc _ _
 clear hal hb hh
 generalize w_c.alloc (.cells #[.slice none 0 0] 37)=W5 at *
 generalize w_c.heap.size=gl at *
 obtain ⟨xt0,xt1,xt2⟩:=XT.all
 go_wp2_with (first | (go_at_call 56;(with_reducible refine (rows_any _).mono ?_);rintro e w_r ⟨rfl,rfl⟩))
 obtain ⟨W0,hW0⟩:∃ W0,((W5.alloc (.cells #[.slice A n c] 37)).alloc (.cells #[.bool s,.slice A1 n1 c1,.slice A2 n2 c2] 26))=W0:=⟨_,rfl⟩
 have bl:Boxed W0 (gl+1) 37 (.slice A n c):=by rw [← hW0,← hsz5];exact (Boxed.new W5 _ _).alloc _
 have bt:B3 W0 (gl+1+1) (.bool s) (.slice A1 n1 c1) (.slice A2 n2 c2):=by rw [← hW0];exact B3.new' _ _ _ _ _ (by simp [hsz5])
 have ha0:Below W5.heap.size W5 W0:=by rw [← hW0];exact ((Below.refl _ _).alloc (Nat.le_refl _) _).alloc (by simp) _
 have hs0:W0.heap.size=gl+3:=by rw [← hW0];simp [hsz5]
 rw [hW0];clear hW0 xt0 xt1 xt2 XT;replace hL:=hL.below ha0;replace q:=q.below ha0;replace hE:=EachH.belowR hE ha0
 have bL0:Boxed W0 gl 37 (.slice none 0 0):=(ha0.block gl bL.lt).trans bL
 have z0:=Z.below ha0;have hb0:=bend hb5 ha0;clear bL Z hb5 ha0;have HWw:=HW.out
 refine (wpIn_wide (n:=9)).1 (rangeFunc_tells (n:=9) (by omega) (gf:=98) (lb:=#[.pointer (some ⟨gl+1,0,none⟩),.pointer (some ⟨gl+1+1,0,none⟩)]) rfl (enters_of Tryz.func98 (by kernel_rfl) rfl)
  (rows_tells 8 (by omega) (gl+1) (gl+1+1) (by omega) (by omega) hk ht h1 h2 W0 bl bt hL hE HN.out q) (fun h k=>h.trans k) (fun W l o o' _ h hc=>KpS.turn W l o o' h hc) (Below.refl _ _) (fun _=>rfl)
  (fun pre W=>(∃ A' n' c',Boxed W gl 37 (.slice A' n' c')∧∀ x:RowX,pre.getLast?=some x→A'=x.A∧n'=x.n∧c'=x.c)∧B6 W (w.heap.size+1) (.bool false) (.slice none 0 0) (.slice none 0 0) (.bool false) (.slice none 0 0) (.slice none 0 0)∧Below w.heap.size w W)
  (by rintro pre X Y row ⟨⟨A',n',c',b1,b2⟩,z1,b3⟩ hg hr;exact ⟨⟨A',n',c',b1.kept hg (fun e=>by have:=(hr _ e.symm).1;omega),b2⟩,(hg.block _ z1.lt (fun e=>by have:=(hr _ e.symm).1;omega)).trans z1,ownFrom_below (w₀:=w) (B:=W0.heap.size) (Nat.le_refl _) hb0.size pre X Y row b3 hg hr⟩)
  (row_own _) (last_own _ _ _ _ _) ⟨⟨none,0,0,bL0,fun x h=>by cases h⟩,z0,hb0⟩
  (fun x=>{tmps:=#[.slice A n c,.agg #[.bool s,.slice A1 n1 c1,.slice A2 n2 c2],undef,.pointer (some ⟨w.heap.size,0,none⟩),.pointer (some ⟨w.heap.size+1,0,none⟩),.int .i64 0,.pointer (some ⟨gl,0,none⟩),.slice x.A x.n x.c,.slice A n c,.bool true,.bool false,undef,.agg #[.bool s,.slice A1 n1 c1,.slice A2 n2 c2],.int .i64 0,.bool false,.bool false,.agg #[.bool s,.slice A1 n1 c1,.slice A2 n2 c2],.agg #[.bool s_o,.slice A_o n_o c_o,.slice B_o m_o d_o],.int .i64 C,.bool (decide (0 < C)),.bool (decide (0 < C)),undef,.slice A n c,.agg #[.bool s,.slice A1 n1 c1,.slice A2 n2 c2],.func (.func 98) #[] #[.pointer (some ⟨gl+1,0,none⟩),.pointer (some ⟨gl+1+1,0,none⟩)],.slice x.A x.n x.c,undef,undef,undef,undef,undef,undef,undef],defers:=[]}) ?assign ?body ?done)
 case assign =>
  intro l x W K hK
  dsimp only [RowX.encs]
  gi_wp2
  exact hK
 case body =>
  rintro l pre x W ⟨⟨A',n',c',b1,b2⟩,z1,b3⟩ _ _
  have g0:=b1.cell;have f0:=b1.frozen
  gi_wp2
  exact ⟨(KeepsOthers.setCell _ _ _).from _,KpS.box b1 _,⟨x.A,x.n,x.c,b1.set _,fun y hy=>by rw [List.getLast?_concat] at hy;cases hy;exact ⟨rfl,rfl,rfl⟩⟩,(Below.heap_setCell _ _ _ _ (show w.heap.size+1 ≠ gl by omega)).trans z1,b3.setCell (p:=⟨gl,0,none⟩) (by show w.heap.size≤gl;omega) _⟩
 case done =>
  rintro D xs W hD ⟨x,hx,⟨hsv,hea,hxn⟩,hxv,hxk⟩ ⟨⟨A',n',c',b1,b2⟩,z1,b3⟩ hK
  obtain ⟨rfl,rfl,rfl⟩:=b2 x hx
  rw [bez_last vt V (by rw [HVn.out];omega)] at hxv
  rw [HVn.out] at hxk
  rw [hxv,hxk] at hea
  obtain ⟨P,u,hP,hu,hp⟩:=hea.at_ (i:=0) (by rw [hea.1];exact Nat.one_pos)
  obtain rfl:bez vt V=u:=by simpa using hu
  obtain ⟨g0,o0,hix0,EP,_⟩:=hsv.ht hP
  have hl1:0 < x.n:=by rw [← hxn,hea.1];exact Nat.one_pos
  have hixa:∀ w',(Instr.indexAt 37 (.slice x.A x.n x.c) (.int .i64 0)).run Tryz.prog w'=.ok (.pointer (some ⟨g0,o0,none⟩)) w':=fun w'=>hix0 x.n x.c w' hl1
  have epl:=EP.ldH;have g1:=b1.cell
  have hkk:1≤kRow k kt (n - 1):=kRow_pos h1
  have hb:=b3;have Z:=z1
  have hDs:=(Array.getElem?_eq_some_iff.1 hK).1
  have HK0:=Lib.hid hK;clear b1 b2 z1 b3 hx hxv hxk hea hP hu hix0 EP hsv hK
  go_wp2_with (first
   | (go_at_call 28;(with_reducible refine (cpoint_p hp (by omega) hkk (by have h9:=HW.out;grind)).mono ?_);rintro e w_r ⟨s_r,A_r,n_r,c_r,B_r,m_r,d_r,t_r,E_r,i_r,e_r,F_r,j_r,f_r,rfl,r,hh⟩
      (try replace Z:=Z.below hh);(try replace hp:=hp.below hh);replace hb:=bend hb hh
      have HK:=Lib.hid ((hh.block D hDs).trans HK0.out)
      have zg0:=Z.f0;have zg1:=Z.f1;have zg2:=Z.f2;have zg3:=Z.f3;have zg4:=Z.f4;have zg5:=Z.f5;obtain ⟨zc0,zc1,zc2,zc3,zc4,zc5⟩:=Z.all))
  have ho:=only_six w_r (w.heap.size+1) (.bool s_r) (.slice A_r n_r c_r) (.slice B_r m_r d_r) (.bool t_r) (.slice E_r i_r e_r) (.slice F_r j_r f_r)
  have Z2:=Z.set6 (.bool s_r) (.slice A_r n_r c_r) (.slice B_r m_r d_r) (.bool t_r) (.slice E_r i_r e_r) (.slice F_r j_r f_r)
  have r2:=r.set6 Z (.bool s_r) (.slice A_r n_r c_r) (.slice B_r m_r d_r) (.bool t_r) (.slice E_r i_r e_r) (.slice F_r j_r f_r)
  have hb2:=below_set6 hb (show w.heap.size≤w.heap.size+1 by omega) (.bool s_r) (.slice A_r n_r c_r) (.slice B_r m_r d_r) (.bool t_r) (.slice E_r i_r e_r) (.slice F_r j_r f_r)
  have hlr:D < w_r.heap.size:=Nat.lt_of_lt_of_le hDs hh.size
  have hK5:=(ho.block D hlr (by omega)).trans HK.out
  clear ho Z r hb hh HK HK0
  generalize ((((((w_r.setCell ⟨w.heap.size+1,0,none⟩ (.bool s_r)).setCell ⟨w.heap.size+1,1,none⟩ (.slice A_r n_r c_r)).setCell ⟨w.heap.size+1,2,none⟩ (.slice B_r m_r d_r)).setCell ⟨w.heap.size+1,3,none⟩ (.bool t_r)).setCell ⟨w.heap.size+1,4,none⟩ (.slice E_r i_r e_r)).setCell ⟨w.heap.size+1,5,none⟩ (.slice F_r j_r f_r))=W9 at *
  have Z3:B6 (W9.putObj D (.deferred none)) (w.heap.size+1) (.bool s_r) (.slice A_r n_r c_r) (.slice B_r m_r d_r) (.bool t_r) (.slice E_r i_r e_r) (.slice F_r j_r f_r):=(World.putObj_heap_other (by omega)).trans Z2
  obtain ⟨g0,g1,g2,g3,g4,g5⟩:=Z3.all
  refine ⟨by simp,.inl ⟨_,_,rfl,run_takeDeferred hK5,?_⟩⟩
  refine ⟨.tuple #[.agg #[.bool s_r,.slice A_r n_r c_r,.slice B_r m_r d_r,.bool t_r,.slice E_r i_r e_r,.slice F_r j_r f_r],.int .i64 0],?_,?_⟩
  · rw [results_cell_tmp Tryz.results21];simp [go_sem,asAddr,Result.andThen,g0,g1,g2,g3,g4,g5]
  · exact ⟨s_r,A_r,n_r,c_r,B_r,m_r,d_r,t_r,E_r,i_r,e_r,F_r,j_r,f_r,rfl,r2.kp (KpS.turn W9 D _ _ hK5 rfl),hb2.trans (belowK_b (w:=w) (Nat.le_refl _) W9 D _ _ (by have:=hb0.size;omega) hK5 rfl rfl)⟩
theorem cat_p1 {A A1 A2:Option Addr} {n c n1 c1 n2 c2 k kt:Nat} {s:Bool} {L:List HV} {V:List AH} {vt:Rat} (hL:SV w A (hvs L)) (hE:EachH HR w L V k) (hn:L.length=n) (q:QR w s A1 n1 c1 A2 n2 c2 vt kt) (hk:kRow k kt (n - 1)≤10000) (ht:kt≤1000) (h1:1≤k) (h2:1≤kt) (hG:GoodH V) (hT0:0≤vt) (hT1:vt≤1) (hT:sgnQ vt=1) :
 Calls Tryz.prog 21 #[.slice A n c,.agg #[.bool s,.slice A1 n1 c1,.slice A2 n2 c2]] w (GivesPtE w (bez vt V).px (bez vt V).py (kRow k kt (n - 1)+(1+kRow k kt (n - 1)))):=by
 have hk0:k≤10000:=Nat.le_trans (kRow_le (Nat.zero_le _)) hk
 have HT:=Lib.hid hT
 obtain ⟨C,hC,hC0⟩:∃ C,cmpQ vt (Rat.divInt 1 1)=C∧¬ 0 < C:=⟨_,rfl,by rw [one_q];have:=cmp_le hT1;omega⟩
 have HC:=Lib.hid hC
 have HW:Hid (0 < (bez vt V).w):=bez_w (by have:=hG.1;omega) hT0 hT1 hG.2
 have HG:Hid (true=true ↔ GoodH V):=⟨fun _=>hG,fun _=>rfl⟩
 have hkG:k≤90000:=by omega
 have hn2:2≤n∧n≤4:=by rw [← hn,hE.1];exact hG.1
 have HVn:Hid (V.length=n):=hE.1.symm.trans hn
 have HN:=Lib.hid hn;clear hC hT hT0 hT1 hG hn
 refine (callsIn_wide (n:=9)).1 ?_
 refine callsIn_of_wp_marks Tryz.func21 rfl trivial ?_ rfl
 refine wpIn_wide.2 ?_
 simp only [Tryz.ntmps21,List.size_toArray,List.length_cons,List.length_nil,Nat.reduceAdd,Nat.reduceSub,Array.replicate_succ,Array.replicate_zero,List.push_toArray,List.append_toArray,List.nil_append,List.cons_append]
 go_upto_region 1 with (fail)
 generalize hW:World.alloc _ _=W
 obtain ⟨hb,XT,Z,hzW⟩:=mkbx42_15 hW;clear hW;replace hL:=hL.below hb;replace q:=q.below hb;replace hE:=EachH.belowR hE hb
 go_upto_region 3 with (first
  | (go_at_call 30;(with_reducible refine (cgood_any hL hE HN.out hkG h1 true HG.out).mono ?_);rintro e w_g ⟨rfl,hh⟩
     (try replace hL:=hL.below hh);(try replace q:=q.below hh);(try replace XT:=XT.below hh);(try replace Z:=Z.below hh);replace hb:=bend hb hh;replace hE:=EachH.belowR hE hh))
 replace hL:=hL.below (Below.refl _ _).drew
 replace q:=q.below (Below.refl _ _).drew
 replace XT:=XT.below (Below.refl _ _).drew
 replace Z:=Z.below (Below.refl _ _).drew
 replace hb:=hb.drew
 replace hE:=EachH.belowR hE (Below.refl _ _).drew
 go_region_held3 (fun w'=>w'.cell? ⟨w.heap.size,0,none⟩=some (.bool s)∧w'.cell? ⟨w.heap.size,1,none⟩=some (.slice A1 n1 c1)∧w'.cell? ⟨w.heap.size,2,none⟩=some (.slice A2 n2 c2))
  (first | with_reducible exact ⟨XT.c0,XT.c1,XT.c2⟩)
  (first
  | (go_at_call 55;(with_reducible refine (rsign_q q (by omega) h2).mono ?_);rintro e w_s ⟨rfl,hh⟩
     rw [HT.out];(try replace hL:=hL.below hh);(try replace q:=q.below hh);(try replace XT:=XT.below hh);(try replace Z:=Z.below hh);replace hb:=bend hb hh;replace hE:=EachH.belowR hE hh)
  | (go_at_call 43;(with_reducible refine (cone_q _).mono ?_);rintro e w_o ⟨s_o,A_o,n_o,c_o,B_o,m_o,d_o,rfl,o,hh⟩
     (try replace hL:=hL.below hh);(try replace q:=q.below hh);(try replace XT:=XT.below hh);(try replace Z:=Z.below hh);replace hb:=bend hb hh;replace hE:=EachH.belowR hE hh)
  | (go_at_call 35;(with_reducible refine (rcmp_q q o.qr (by omega) (by decide) (.inr (by decide)) h2 (by decide)).mono ?_);rintro e w_c ⟨rfl,hh⟩
     rw [HC.out];(try replace hL:=hL.below hh);(try replace q:=q.below hh);(try replace XT:=XT.below hh);(try replace Z:=Z.below hh);(try replace o:=o.below hh);replace hb:=bend hb hh;replace hE:=EachH.belowR hE hh;clear o))
 go_upto_region 6 with (fail)
 have bL:=Boxed.new w_c 37 (.slice none 0 0)
 have hal:Below w_c.heap.size w_c (w_c.alloc (.cells #[.slice none 0 0] 37)):=(Below.refl _ _).alloc (Nat.le_refl _) _
 replace hL:=hL.below hal;replace q:=q.below hal;have hzl:=XT.lt;have hzz:=Z.lt;replace XT:=XT.below hal;replace Z:=Z.below hal;replace hE:=EachH.belowR hE hal;have hb5:=bend hb hal
 have hsz5:(w_c.alloc (.cells #[.slice none 0 0] 37)).heap.size=w_c.heap.size+1:=World.size_alloc _ _
 clear hal hb hh
 generalize w_c.alloc (.cells #[.slice none 0 0] 37)=W5 at *
 generalize w_c.heap.size=gl at *
 obtain ⟨xt0,xt1,xt2⟩:=XT.all
 go_wp2_with (first | (go_at_call 56;(with_reducible refine (rows_any _).mono ?_);rintro e w_r ⟨rfl,rfl⟩))
 obtain ⟨W0,hW0⟩:∃ W0,((W5.alloc (.cells #[.slice A n c] 37)).alloc (.cells #[.bool s,.slice A1 n1 c1,.slice A2 n2 c2] 26))=W0:=⟨_,rfl⟩
 have bl:Boxed W0 (gl+1) 37 (.slice A n c):=by rw [← hW0,← hsz5];exact (Boxed.new W5 _ _).alloc _
 have bt:B3 W0 (gl+1+1) (.bool s) (.slice A1 n1 c1) (.slice A2 n2 c2):=by rw [← hW0];exact B3.new' _ _ _ _ _ (by simp [hsz5])
 have ha0:Below W5.heap.size W5 W0:=by rw [← hW0];exact ((Below.refl _ _).alloc (Nat.le_refl _) _).alloc (by simp) _
 have hs0:W0.heap.size=gl+3:=by rw [← hW0];simp [hsz5]
 rw [hW0];clear hW0 xt0 xt1 xt2 XT;replace hL:=hL.below ha0;replace q:=q.below ha0;replace hE:=EachH.belowR hE ha0
 have bL0:Boxed W0 gl 37 (.slice none 0 0):=(ha0.block gl bL.lt).trans bL
 have z0:=Z.below ha0;have hb0:=bend hb5 ha0;clear bL Z hb5 ha0;have HWw:=HW.out
 refine (wpIn_wide (n:=9)).1 (rangeFunc_tells (n:=9) (by omega) (gf:=98) (lb:=#[.pointer (some ⟨gl+1,0,none⟩),.pointer (some ⟨gl+1+1,0,none⟩)]) rfl (enters_of Tryz.func98 (by kernel_rfl) rfl)
  (rows_tells 8 (by omega) (gl+1) (gl+1+1) (by omega) (by omega) hk ht h1 h2 W0 bl bt hL hE HN.out q) (fun h k=>h.trans k) (fun W l o o' _ h hc=>KpS.turn W l o o' h hc) (Below.refl _ _) (fun _=>rfl)
  (fun pre W=>(∃ A' n' c',Boxed W gl 37 (.slice A' n' c')∧∀ x:RowX,pre.getLast?=some x→A'=x.A∧n'=x.n∧c'=x.c)∧B6 W (w.heap.size+1) (.bool false) (.slice none 0 0) (.slice none 0 0) (.bool false) (.slice none 0 0) (.slice none 0 0)∧Below w.heap.size w W)
  (by rintro pre X Y row ⟨⟨A',n',c',b1,b2⟩,z1,b3⟩ hg hr;exact ⟨⟨A',n',c',b1.kept hg (fun e=>by have:=(hr _ e.symm).1;omega),b2⟩,(hg.block _ z1.lt (fun e=>by have:=(hr _ e.symm).1;omega)).trans z1,ownFrom_below (w₀:=w) (B:=W0.heap.size) (Nat.le_refl _) hb0.size pre X Y row b3 hg hr⟩)
  (row_own _) (last_own _ _ _ _ _) ⟨⟨none,0,0,bL0,fun x h=>by cases h⟩,z0,hb0⟩
  (fun x=>{tmps:=#[.slice A n c,.agg #[.bool s,.slice A1 n1 c1,.slice A2 n2 c2],undef,.pointer (some ⟨w.heap.size,0,none⟩),.pointer (some ⟨w.heap.size+1,0,none⟩),.int .i64 0,.pointer (some ⟨gl,0,none⟩),.slice x.A x.n x.c,.slice A n c,.bool true,.bool false,undef,.agg #[.bool s,.slice A1 n1 c1,.slice A2 n2 c2],.int .i64 1,.bool false,.bool false,.agg #[.bool s,.slice A1 n1 c1,.slice A2 n2 c2],.agg #[.bool s_o,.slice A_o n_o c_o,.slice B_o m_o d_o],.int .i64 C,.bool (decide (0 < C)),.bool (decide (0 < C)),undef,.slice A n c,.agg #[.bool s,.slice A1 n1 c1,.slice A2 n2 c2],.func (.func 98) #[] #[.pointer (some ⟨gl+1,0,none⟩),.pointer (some ⟨gl+1+1,0,none⟩)],.slice x.A x.n x.c,undef,undef,undef,undef,undef,undef,undef],defers:=[]}) ?assign ?body ?done)
 case assign =>
  intro l x W K hK
  dsimp only [RowX.encs]
  gi_wp2
  exact hK
 case body =>
  rintro l pre x W ⟨⟨A',n',c',b1,b2⟩,z1,b3⟩ _ _
  have g0:=b1.cell;have f0:=b1.frozen
  gi_wp2
  exact ⟨(KeepsOthers.setCell _ _ _).from _,KpS.box b1 _,⟨x.A,x.n,x.c,b1.set _,fun y hy=>by rw [List.getLast?_concat] at hy;cases hy;exact ⟨rfl,rfl,rfl⟩⟩,(Below.heap_setCell _ _ _ _ (show w.heap.size+1 ≠ gl by omega)).trans z1,b3.setCell (p:=⟨gl,0,none⟩) (by show w.heap.size≤gl;omega) _⟩
 case done =>
  rintro D xs W hD ⟨x,hx,⟨hsv,hea,hxn⟩,hxv,hxk⟩ ⟨⟨A',n',c',b1,b2⟩,z1,b3⟩ hK
  obtain ⟨rfl,rfl,rfl⟩:=b2 x hx
  rw [bez_last vt V (by rw [HVn.out];omega)] at hxv
  rw [HVn.out] at hxk
  rw [hxv,hxk] at hea
  obtain ⟨P,u,hP,hu,hp⟩:=hea.at_ (i:=0) (by rw [hea.1];exact Nat.one_pos)
  obtain rfl:bez vt V=u:=by simpa using hu
  obtain ⟨g0,o0,hix0,EP,_⟩:=hsv.ht hP
  have hl1:0 < x.n:=by rw [← hxn,hea.1];exact Nat.one_pos
  have hixa:∀ w',(Instr.indexAt 37 (.slice x.A x.n x.c) (.int .i64 0)).run Tryz.prog w'=.ok (.pointer (some ⟨g0,o0,none⟩)) w':=fun w'=>hix0 x.n x.c w' hl1
  have epl:=EP.ldH;have g1:=b1.cell
  have hkk:1≤kRow k kt (n - 1):=kRow_pos h1
  have hb:=b3;have Z:=z1
  have hDs:=(Array.getElem?_eq_some_iff.1 hK).1
  have HK0:=Lib.hid hK;clear b1 b2 z1 b3 hx hxv hxk hea hP hu hix0 EP hsv hK
  go_wp2_with (first
   | (go_at_call 28;(with_reducible refine (cpoint_p hp (by omega) hkk (by have h9:=HW.out;grind)).mono ?_);rintro e w_r ⟨s_r,A_r,n_r,c_r,B_r,m_r,d_r,t_r,E_r,i_r,e_r,F_r,j_r,f_r,rfl,r,hh⟩
      (try replace Z:=Z.below hh);(try replace hp:=hp.below hh);replace hb:=bend hb hh
      have HK:=Lib.hid ((hh.block D hDs).trans HK0.out)
      have zg0:=Z.f0;have zg1:=Z.f1;have zg2:=Z.f2;have zg3:=Z.f3;have zg4:=Z.f4;have zg5:=Z.f5;obtain ⟨zc0,zc1,zc2,zc3,zc4,zc5⟩:=Z.all))
  have ho:=only_six w_r (w.heap.size+1) (.bool s_r) (.slice A_r n_r c_r) (.slice B_r m_r d_r) (.bool t_r) (.slice E_r i_r e_r) (.slice F_r j_r f_r)
  have Z2:=Z.set6 (.bool s_r) (.slice A_r n_r c_r) (.slice B_r m_r d_r) (.bool t_r) (.slice E_r i_r e_r) (.slice F_r j_r f_r)
  have r2:=r.set6 Z (.bool s_r) (.slice A_r n_r c_r) (.slice B_r m_r d_r) (.bool t_r) (.slice E_r i_r e_r) (.slice F_r j_r f_r)
  have hb2:=below_set6 hb (show w.heap.size≤w.heap.size+1 by omega) (.bool s_r) (.slice A_r n_r c_r) (.slice B_r m_r d_r) (.bool t_r) (.slice E_r i_r e_r) (.slice F_r j_r f_r)
  have hlr:D < w_r.heap.size:=Nat.lt_of_lt_of_le hDs hh.size
  have hK5:=(ho.block D hlr (by omega)).trans HK.out
  clear ho Z r hb hh HK HK0
  generalize ((((((w_r.setCell ⟨w.heap.size+1,0,none⟩ (.bool s_r)).setCell ⟨w.heap.size+1,1,none⟩ (.slice A_r n_r c_r)).setCell ⟨w.heap.size+1,2,none⟩ (.slice B_r m_r d_r)).setCell ⟨w.heap.size+1,3,none⟩ (.bool t_r)).setCell ⟨w.heap.size+1,4,none⟩ (.slice E_r i_r e_r)).setCell ⟨w.heap.size+1,5,none⟩ (.slice F_r j_r f_r))=W9 at *
  have Z3:B6 (W9.putObj D (.deferred none)) (w.heap.size+1) (.bool s_r) (.slice A_r n_r c_r) (.slice B_r m_r d_r) (.bool t_r) (.slice E_r i_r e_r) (.slice F_r j_r f_r):=(World.putObj_heap_other (by omega)).trans Z2
  obtain ⟨g0,g1,g2,g3,g4,g5⟩:=Z3.all
  refine ⟨by simp,.inl ⟨_,_,rfl,run_takeDeferred hK5,?_⟩⟩
  refine ⟨.tuple #[.agg #[.bool s_r,.slice A_r n_r c_r,.slice B_r m_r d_r,.bool t_r,.slice E_r i_r e_r,.slice F_r j_r f_r],.int .i64 0],?_,?_⟩
  · rw [results_cell_tmp Tryz.results21];simp [go_sem,asAddr,Result.andThen,g0,g1,g2,g3,g4,g5]
  · exact ⟨s_r,A_r,n_r,c_r,B_r,m_r,d_r,t_r,E_r,i_r,e_r,F_r,j_r,f_r,rfl,r2.kp (KpS.turn W9 D _ _ hK5 rfl),hb2.trans (belowK_b (w:=w) (Nat.le_refl _) W9 D _ _ (by have:=hb0.size;omega) hK5 rfl rfl)⟩
end
section
open Go Go.RowKit
attribute [local go_sem ↓] open_LVM open_STM open_LVN open_STN
attribute [local go_sem ↓] open_LVH open_STH open_LVJ open_STJ
def BS (W:World) (g:Nat) (v0 v1 v2 v3 v4 v5 v6 v7:Value):Prop:=W.heap[g]?=some (.cells #[v0,v1,v2,v3,v4,v5,v6,v7] 31 (0,0))
section
variable {W W':World} {g:Nat} {v0 v1 v2 v3 v4 v5 v6 v7:Value}
theorem BS.c0 (h:BS W g v0 v1 v2 v3 v4 v5 v6 v7):W.cell? ⟨g,0,none⟩=some v0:=by rw [cell_of_row W g 0 _ _ (0,0) h];rfl
theorem BS.c1 (h:BS W g v0 v1 v2 v3 v4 v5 v6 v7):W.cell? ⟨g,1,none⟩=some v1:=by rw [cell_of_row W g 1 _ _ (0,0) h];rfl
theorem BS.c2 (h:BS W g v0 v1 v2 v3 v4 v5 v6 v7):W.cell? ⟨g,2,none⟩=some v2:=by rw [cell_of_row W g 2 _ _ (0,0) h];rfl
theorem BS.c3 (h:BS W g v0 v1 v2 v3 v4 v5 v6 v7):W.cell? ⟨g,3,none⟩=some v3:=by rw [cell_of_row W g 3 _ _ (0,0) h];rfl
theorem BS.c4 (h:BS W g v0 v1 v2 v3 v4 v5 v6 v7):W.cell? ⟨g,4,none⟩=some v4:=by rw [cell_of_row W g 4 _ _ (0,0) h];rfl
theorem BS.c5 (h:BS W g v0 v1 v2 v3 v4 v5 v6 v7):W.cell? ⟨g,5,none⟩=some v5:=by rw [cell_of_row W g 5 _ _ (0,0) h];rfl
theorem BS.c6 (h:BS W g v0 v1 v2 v3 v4 v5 v6 v7):W.cell? ⟨g,6,none⟩=some v6:=by rw [cell_of_row W g 6 _ _ (0,0) h];rfl
theorem BS.c7 (h:BS W g v0 v1 v2 v3 v4 v5 v6 v7):W.cell? ⟨g,7,none⟩=some v7:=by rw [cell_of_row W g 7 _ _ (0,0) h];rfl
theorem BS.all (h:BS W g v0 v1 v2 v3 v4 v5 v6 v7):W.cell? ⟨g,0,none⟩=some v0∧W.cell? ⟨g,1,none⟩=some v1∧W.cell? ⟨g,2,none⟩=some v2∧W.cell? ⟨g,3,none⟩=some v3∧W.cell? ⟨g,4,none⟩=some v4∧W.cell? ⟨g,5,none⟩=some v5∧W.cell? ⟨g,6,none⟩=some v6∧W.cell? ⟨g,7,none⟩=some v7:=⟨h.c0,h.c1,h.c2,h.c3,h.c4,h.c5,h.c6,h.c7⟩
theorem BS.lt (h:BS W g v0 v1 v2 v3 v4 v5 v6 v7):g < W.heap.size:=World.block_lt_of_cell? W _ h.c0
theorem BS.below (h:BS W g v0 v1 v2 v3 v4 v5 v6 v7) (hb:Below W.heap.size W W'):BS W' g v0 v1 v2 v3 v4 v5 v6 v7:=(hb.block g h.lt).trans h
theorem BS.alloc (h:BS W g v0 v1 v2 v3 v4 v5 v6 v7) (o:Obj):BS (W.alloc o) g v0 v1 v2 v3 v4 v5 v6 v7:=(Below.heap_alloc W o g h.lt).trans h
theorem BS.restm {k:Nat} (h:BS W g v0 v1 v2 v3 v4 v5 v6 v7) (hne:g ≠ k) (ho:Only k W W'):BS W' g v0 v1 v2 v3 v4 v5 v6 v7:=(ho.block g h.lt hne).trans h
theorem BS.new' (W:World) (v0 v1 v2 v3 v4 v5 v6 v7:Value) (g:Nat) (hg:g=W.heap.size):BS (W.alloc (.cells #[v0,v1,v2,v3,v4,v5,v6,v7] 31)) g v0 v1 v2 v3 v4 v5 v6 v7:=by subst hg;exact heap_alloc_new W _
end
structure SV8 where
 k:Int
 v0:Int
 v1:Int
 v2:Int
 v3:Int
 v4:Int
 v5:Int
 w:Int
def SV8.at_ (s:SV8):Nat→Int
 | 0=>s.v0
 | 1=>s.v1
 | 2=>s.v2
 | 3=>s.v3
 | 4=>s.v4
 | _=>s.v5
def i64In (x:Int):Prop:=-9223372036854775808≤x∧x < 9223372036854775808
def SV8.In (s:SV8):Prop:=i64In s.k∧(∀ i,i64In (s.at_ i))∧i64In s.w
def cntK (K:Int):Nat:=if K=2 then 1 else if K=3 ∨ K=5 then 2 else if K=4 then 3 else 0
theorem cntK_le (K : Int) : cntK K ≤ 3 := by unfold cntK; split; · decide
                                             · split;· decide
                                               · split <;> decide
def wgtQ (s:SV8) (i:Nat):Rat:=if s.k=5∧i=0 then fromQ s.w 64 else 1
theorem cpoints_i (K:Int) (w:World):Calls Tryz.prog 41 #[.int .i64 K] w fun e w'=>e=.returned (.int .i64 (cntK K:Int))∧w=w':=by
 by_cases h2:K=2
 · subst h2
   go_enter Tryz.func41,Tryz.ntmps41
   go_wp2_with fail
   go_ret
   exact ⟨rfl,rfl⟩
 · by_cases h3:K=3
   · subst h3
     go_enter Tryz.func41,Tryz.ntmps41
     go_wp2_with fail
     go_ret
     exact ⟨rfl,rfl⟩
   · by_cases h5:K=5
     · subst h5
       go_enter Tryz.func41,Tryz.ntmps41
       go_wp2_with fail
       go_ret
       exact ⟨rfl,rfl⟩
     · by_cases h4:K=4
       · subst h4
         go_enter Tryz.func41,Tryz.ntmps41
         go_wp2_with fail
         go_ret
         exact ⟨rfl,rfl⟩
       · have e:cntK K=0:=by unfold cntK;rw [if_neg h2,if_neg (by simp [h3,h5]),if_neg h4]
         rw [e];clear e
         have b2:(K == 2)=false:=by simp [h2]
         have b3:(K == 3)=false:=by simp [h3]
         have b4:(K == 4)=false:=by simp [h4]
         have b5:(K == 5)=false:=by simp [h5]
         go_enter Tryz.func41,Tryz.ntmps41
         go_wp2_with fail
         go_ret
         exact ⟨rfl,rfl⟩
theorem mkbx43_15 {w W:World} {x0 x1 x2 x3 x4 x5 x6 x7 x8 x9 x10:Value} (h:((w.alloc (Obj.cells #[x0,x1,x2,x3,x4,x5,x6,x7] 31)).alloc (Obj.cells #[x8,x9,x10] 26))=W):Below w.heap.size w W∧BS W (w.heap.size) x0 x1 x2 x3 x4 x5 x6 x7∧B3 W (w.heap.size+1) x8 x9 x10∧W.heap.size=w.heap.size+2:=by subst h;exact ⟨by exact (((Below.refl _ _).alloc (Nat.le_refl _) _).alloc (by simp) _),by exact (BS.new' _ _ _ _ _ _ _ _ _ _ rfl).alloc _,by exact B3.new' _ _ _ _ _ (by simp),by simp⟩
theorem cweight_w (u:SV8) (hk:u.k=5) (hw:i64In u.w) :
 Calls Tryz.prog 45 #[.agg #[.int .i64 u.k,.int .i64 u.v0,.int .i64 u.v1,.int .i64 u.v2,.int .i64 u.v3,.int .i64 u.v4,.int .i64 u.v5,.int .i64 u.w],.int .i64 0] w (GivesQ w (fromQ u.w 64) 1):=by
 have HW:Hid (-9223372036854775808≤u.w∧u.w < 9223372036854775808):=hw
 have hkb:(u.k == 5)=true:=by simp [hk]
 clear hw hk
 go_enter Tryz.func45,Tryz.ntmps45
 go_upto_region 1 with (fail)
 generalize hW:World.alloc _ _=W
 obtain ⟨hb,XA,Z,hzW⟩:=mkbx43_15 hW;clear hW;obtain ⟨xa0,xa1,xa2,xa3,xa4,xa5,xa6,xa7⟩:=XA.all
 go_wp2_with (first
  | (go_at_call 44;(with_reducible refine (from_all u.w 64 HW.out.1 HW.out.2 (by decide) (by decide) _).mono ?_);rintro e w_r ⟨s_r,A_r,n_r,c_r,B_r,m_r,d_r,rfl,r,hh⟩
     (try replace Z:=Z.below hh);replace hb:=bend hb hh;have zf0:=Z.f0;have zf1:=Z.f1;have zf2:=Z.f2;obtain ⟨z0,z1,z2⟩:=Z.all))
 have Z2:=Z.set3 (.bool s_r) (.slice A_r n_r c_r) (.slice B_r m_r d_r)
 obtain ⟨g0,g1,g2⟩:=Z2.all
 refine bodyPost_ret (v:=.agg #[.bool s_r,.slice A_r n_r c_r,.slice B_r m_r d_r]) (by simp [results,Tryz.results45,go_sem,g0,g1,g2]) rfl ?_
 exact ⟨s_r,A_r,n_r,c_r,B_r,m_r,d_r,rfl,r.set3 Z _ _ _,below_set3 hb (by omega) _ _ _⟩
theorem cweight_n (u:SV8) (hk:¬ u.k=5) (m:Int) :
 Calls Tryz.prog 45 #[.agg #[.int .i64 u.k,.int .i64 u.v0,.int .i64 u.v1,.int .i64 u.v2,.int .i64 u.v3,.int .i64 u.v4,.int .i64 u.v5,.int .i64 u.w],.int .i64 m] w (GivesQ w (Rat.divInt 1 1) 1):=by
 have hkb:(u.k == 5)=false:=by simp [hk]
 go_enter Tryz.func45,Tryz.ntmps45
 go_upto_region 1 with (fail)
 generalize hW:World.alloc _ _=W
 obtain ⟨hb,XA,Z,hzW⟩:=mkbx43_15 hW;clear hW;obtain ⟨xa0,xa1,xa2,xa3,xa4,xa5,xa6,xa7⟩:=XA.all
 go_wp2_with (first
  | (go_at_call 43;(with_reducible refine (cone_q _).mono ?_);rintro e w_r ⟨s_r,A_r,n_r,c_r,B_r,m_r,d_r,rfl,r,hh⟩
     (try replace Z:=Z.below hh);replace hb:=bend hb hh;have zf0:=Z.f0;have zf1:=Z.f1;have zf2:=Z.f2;obtain ⟨z0,z1,z2⟩:=Z.all))
 have Z2:=Z.set3 (.bool s_r) (.slice A_r n_r c_r) (.slice B_r m_r d_r)
 obtain ⟨g0,g1,g2⟩:=Z2.all
 refine bodyPost_ret (v:=.agg #[.bool s_r,.slice A_r n_r c_r,.slice B_r m_r d_r]) (by simp [results,Tryz.results45,go_sem,g0,g1,g2]) rfl ?_
 exact ⟨s_r,A_r,n_r,c_r,B_r,m_r,d_r,rfl,r.set3 Z _ _ _,below_set3 hb (by omega) _ _ _⟩
theorem cweight_m (u:SV8) (hk:u.k=5) (m:Int) (hm:¬ m=0) :
 Calls Tryz.prog 45 #[.agg #[.int .i64 u.k,.int .i64 u.v0,.int .i64 u.v1,.int .i64 u.v2,.int .i64 u.v3,.int .i64 u.v4,.int .i64 u.v5,.int .i64 u.w],.int .i64 m] w (GivesQ w (Rat.divInt 1 1) 1):=by
 have hkb:(u.k == 5)=true:=by simp [hk]
 have hmb:(m == 0)=false:=by simp [hm]
 clear hk
 go_enter Tryz.func45,Tryz.ntmps45
 go_upto_region 1 with (fail)
 generalize hW:World.alloc _ _=W
 obtain ⟨hb,XA,Z,hzW⟩:=mkbx43_15 hW;clear hW;obtain ⟨xa0,xa1,xa2,xa3,xa4,xa5,xa6,xa7⟩:=XA.all
 go_wp2_with (first
  | (go_at_call 43;(with_reducible refine (cone_q _).mono ?_);rintro e w_r ⟨s_r,A_r,n_r,c_r,B_r,m_r,d_r,rfl,r,hh⟩
     (try replace Z:=Z.below hh);replace hb:=bend hb hh;have zf0:=Z.f0;have zf1:=Z.f1;have zf2:=Z.f2;obtain ⟨z0,z1,z2⟩:=Z.all))
 have Z2:=Z.set3 (.bool s_r) (.slice A_r n_r c_r) (.slice B_r m_r d_r)
 obtain ⟨g0,g1,g2⟩:=Z2.all
 refine bodyPost_ret (v:=.agg #[.bool s_r,.slice A_r n_r c_r,.slice B_r m_r d_r]) (by simp [results,Tryz.results45,go_sem,g0,g1,g2]) rfl ?_
 exact ⟨s_r,A_r,n_r,c_r,B_r,m_r,d_r,rfl,r.set3 Z _ _ _,below_set3 hb (by omega) _ _ _⟩
theorem cweight_q (u:SV8) (m:Nat) (hw:i64In u.w):Calls Tryz.prog 45 #[.agg #[.int .i64 u.k,.int .i64 u.v0,.int .i64 u.v1,.int .i64 u.v2,.int .i64 u.v3,.int .i64 u.v4,.int .i64 u.v5,.int .i64 u.w],.int .i64 (m:Int)] w (GivesQ w (wgtQ u m) 1):=by
 unfold wgtQ
 by_cases hk:u.k=5
 · by_cases hm:m=0
   · subst hm;rw [if_pos ⟨hk,rfl⟩];exact cweight_w u hk hw
   · rw [if_neg (by simp [hm]),← one_q];exact cweight_m u hk m (by omega)
 · rw [if_neg (by simp [hk]),← one_q];exact cweight_n u hk m
theorem run_sg_mul {e1:Operand→Value} {x1:Operand} {d1:Option Tmp} {y1:Nat} {pos:String} {af:Array Edge} {m:Nat} (h:e1 x1=.int .i64 (m:Int)) (hw:IntKind.i64.wrap (2*(m:Int))=2*(m:Int)) (hc:e1 (.const (Value.int IntKind.i64 2))=.int .i64 2) :
 (execOp e1 ⟨d1,.binOp BinOp.mul 3 (.const (Value.int IntKind.i64 2)) x1 3,y1,pos,af,none⟩).run Tryz.prog w=.ok (.value (.int .i64 (2*(m:Int)))) w:=by
 go_simp
theorem run_sg_add {e1:Operand→Value} {x1:Operand} {d1:Option Tmp} {y1:Nat} {pos:String} {af:Array Edge} {m:Nat} (h:e1 x1=.int .i64 (2*(m:Int))) (hw:IntKind.i64.wrap (2*(m:Int)+1)=2*(m:Int)+1) (hc:e1 (.const (Value.int IntKind.i64 1))=.int .i64 1) :
 (execOp e1 ⟨d1,.binOp BinOp.add 3 x1 (.const (Value.int IntKind.i64 1)) 3,y1,pos,af,none⟩).run Tryz.prog w=.ok (.value (.int .i64 (2*(m:Int)+1))) w:=by
 go_simp
theorem run_sg_fa {e1:Operand→Value} {x1:Operand} {d1:Option Tmp} {y1:Nat} {pos:String} {af:Array Edge} {g:Nat} (h:e1 x1=.pointer (some ⟨g,0,none⟩)) :
 (execOp e1 ⟨d1,.fieldAddr 31 x1 1,y1,pos,af,none⟩).run Tryz.prog w=.ok (.value (.pointer (some ⟨g,1,none⟩))) w:=by
 go_simp
theorem run_sg_ia {e1:Operand→Value} {x1 x2:Operand} {d1:Option Tmp} {y1:Nat} {pos:String} {af:Array Edge} {g o:Nat} {J:Int} (h:e1 x1=.pointer (some ⟨g,1,none⟩)) (h2:e1 x2=.int .i64 J) (hix:∀ w':World,(Instr.indexAt 29 (.pointer (some ⟨g,1,none⟩)) (.int .i64 J)).run Tryz.prog w'=.ok (.pointer (some ⟨g,o,none⟩)) w') :
 (execOp e1 ⟨d1,.indexAddr 29 x1 x2,y1,pos,af,none⟩).run Tryz.prog w=.ok (.value (.pointer (some ⟨g,o,none⟩))) w:=by
 go_simp
theorem run_sg_ld {e1:Operand→Value} {x1:Operand} {d1:Option Tmp} {y1:Nat} {pos:String} {af:Array Edge} {g o:Nat} {u:Int} (h:e1 x1=.pointer (some ⟨g,o,none⟩)) (hc:w.cell? ⟨g,o,none⟩=some (.int .i64 u)) :
 (execOp e1 ⟨d1,.load 2 x1,y1,pos,af,none⟩).run Tryz.prog w=.ok (.value (.int .i64 u)) w:=by
 go_simp
theorem ats_0 (g:Nat) (w:World):(Instr.indexAt 29 (Value.pointer (some ⟨g,1,none⟩)) (Value.int IntKind.i64 0)).run Tryz.prog w=.ok (.pointer (some ⟨g,1,none⟩)) w:=by kernel_rfl
theorem ats_1 (g:Nat) (w:World):(Instr.indexAt 29 (Value.pointer (some ⟨g,1,none⟩)) (Value.int IntKind.i64 1)).run Tryz.prog w=.ok (.pointer (some ⟨g,2,none⟩)) w:=by kernel_rfl
theorem ats_2 (g:Nat) (w:World):(Instr.indexAt 29 (Value.pointer (some ⟨g,1,none⟩)) (Value.int IntKind.i64 2)).run Tryz.prog w=.ok (.pointer (some ⟨g,3,none⟩)) w:=by kernel_rfl
theorem ats_3 (g:Nat) (w:World):(Instr.indexAt 29 (Value.pointer (some ⟨g,1,none⟩)) (Value.int IntKind.i64 3)).run Tryz.prog w=.ok (.pointer (some ⟨g,4,none⟩)) w:=by kernel_rfl
theorem ats_4 (g:Nat) (w:World):(Instr.indexAt 29 (Value.pointer (some ⟨g,1,none⟩)) (Value.int IntKind.i64 4)).run Tryz.prog w=.ok (.pointer (some ⟨g,5,none⟩)) w:=by kernel_rfl
theorem ats_5 (g:Nat) (w:World):(Instr.indexAt 29 (Value.pointer (some ⟨g,1,none⟩)) (Value.int IntKind.i64 5)).run Tryz.prog w=.ok (.pointer (some ⟨g,6,none⟩)) w:=by kernel_rfl
theorem ats_m (g m:Nat) (hm:m < 6) (w:World):(Instr.indexAt 29 (Value.pointer (some ⟨g,1,none⟩)) (Value.int IntKind.i64 (m:Int))).run Tryz.prog w=.ok (.pointer (some ⟨g,1+m,none⟩)) w:=by
 match m,hm with
 | 0,_=>exact ats_0 g w
 | 1,_=>exact ats_1 g w
 | 2,_=>exact ats_2 g w
 | 3,_=>exact ats_3 g w
 | 4,_=>exact ats_4 g w
 | 5,_=>exact ats_5 g w
theorem BS.cv {W:World} {g:Nat} {u:SV8} (h:BS W g (.int .i64 u.k) (.int .i64 u.v0) (.int .i64 u.v1) (.int .i64 u.v2) (.int .i64 u.v3) (.int .i64 u.v4) (.int .i64 u.v5) (.int .i64 u.w)) (m:Nat) (hm:m < 6):W.cell? ⟨g,1+m,none⟩=some (.int .i64 (u.at_ m)):=by
 match m,hm with
 | 0,_=>exact h.c1
 | 1,_=>exact h.c2
 | 2,_=>exact h.c3
 | 3,_=>exact h.c4
 | 4,_=>exact h.c5
 | 5,_=>exact h.c6
def C1 (w:World) (g o:Nat) (u:Value):Prop:=w.cell? ⟨g,o,none⟩=some u
theorem C1.below {w w':World} {g o:Nat} {u:Value} (h:C1 w g o u) (hb:Below w.heap.size w w'):C1 w' g o u:=(hb.cell (p:=⟨g,o,none⟩) (World.block_lt_of_cell? w ⟨g,o,none⟩ h)).trans h
abbrev L_cofp:List Nat:=[37,38,39,40,41,42,43,44,45,46,47,48,49,50,11]
def o0_cofp:Oper:=⟨some 37,.move (.tmp 10),3, "curve.go:24",#[],none⟩
def o1_cofp:Oper:=⟨some 38,.binOp BinOp.mul 3 (.const (Value.int IntKind.i64 2)) (.tmp 37) 3,3, "curve.go:24",#[⟨0,.data⟩],none⟩
def o2_cofp:Oper:=⟨some 39,.fieldAddr 31 (.tmp 4) 1,0, "curve.go:24",#[],none⟩
def o3_cofp:Oper:=⟨some 40,.indexAddr 29 (.tmp 39) (.tmp 38),0, "curve.go:24",#[⟨2,.data⟩,⟨1,.data⟩],none⟩
def o4_cofp:Oper:=⟨some 41,.load 2 (.tmp 40),2, "curve.go:24",#[⟨3,.data⟩],none⟩
def o5_cofp:Oper:=⟨some 42,.call ⟨.value (.func 44),#[.tmp 41,.const (Value.int IntKind.i64 64)],#[2,2]⟩,26, "curve.go:24",#[⟨4,.data⟩],none⟩
def o6_cofp:Oper:=⟨some 43,.move (.tmp 10),3, "curve.go:24",#[],none⟩
def o7_cofp:Oper:=⟨some 44,.binOp BinOp.mul 3 (.const (Value.int IntKind.i64 2)) (.tmp 43) 3,3, "curve.go:24",#[⟨6,.data⟩],none⟩
def o8_cofp:Oper:=⟨some 45,.binOp BinOp.add 3 (.tmp 44) (.const (Value.int IntKind.i64 1)) 3,3, "curve.go:24",#[⟨7,.data⟩],none⟩
def o9_cofp:Oper:=⟨some 46,.fieldAddr 31 (.tmp 4) 1,0, "curve.go:24",#[],none⟩
def o10_cofp:Oper:=⟨some 47,.indexAddr 29 (.tmp 46) (.tmp 45),0, "curve.go:24",#[⟨9,.data⟩,⟨8,.data⟩],none⟩
def o11_cofp:Oper:=⟨some 48,.load 2 (.tmp 47),2, "curve.go:24",#[⟨10,.data⟩],none⟩
def o12_cofp:Oper:=⟨some 49,.call ⟨.value (.func 44),#[.tmp 48,.const (Value.int IntKind.i64 64)],#[2,2]⟩,26, "curve.go:24",#[⟨11,.data⟩,⟨5,.chain⟩],none⟩
def o13_cofp:Oper:=⟨some 50,.build 28 #[(0,.tmp 42),(1,.tmp 49)],28, "curve.go:24",#[⟨5,.data⟩,⟨12,.data⟩],none⟩
def o14_cofp:Oper:=⟨some 11,.alloc 28,0, "curve.go:24",#[],none⟩
def o15_cofp:Oper:=⟨none,.store 28 (.tmp 11) (.tmp 50),0, "curve.go:24",#[⟨14,.data⟩,⟨13,.data⟩,⟨12,.chain⟩,⟨0,.phase⟩,⟨1,.phase⟩,⟨2,.phase⟩,⟨3,.phase⟩,⟨4,.phase⟩,⟨5,.phase⟩,⟨6,.phase⟩,⟨7,.phase⟩,⟨8,.phase⟩,⟨9,.phase⟩,⟨10,.phase⟩,⟨11,.phase⟩,⟨12,.phase⟩,⟨13,.phase⟩,⟨14,.phase⟩],none⟩
theorem rc_gesso_fix_From {e:Operand→Value} {x0 x1:Operand} {d:Option Tmp} {y:Nat} {pos:String} {af:Array Edge} {u0 u1:Value} (h0:e x0=u0) (h1:e x1=u1) (hf:e (.func 44)=.func (.func 44) #[] #[]) :
 (execOp e ⟨d,.call ⟨.value (.func 44),#[x0,x1],#[2,2]⟩,y,pos,af,none⟩).run Tryz.prog w=.ok (.enter 44 #[u0,u1]) w:=by
 go_simp
def F_cofp (gs:Nat) (m:Nat) (p:Nat) (q:Nat) (a:Int) (b:Int) (sl:Nat):Value→World→Prop :=
 match sl with
 | 37=>fun x _=>x=Value.int .i64 (m:Int)
 | 38=>fun x _=>x=Value.int .i64 (2*(m:Int))
 | 39=>fun x _=>x=Value.pointer (some ⟨gs,1,none⟩)
 | 40=>fun x _=>x=Value.pointer (some ⟨gs,p,none⟩)
 | 41=>fun x _=>x=Value.int .i64 a
 | 42=>VQ (fromQ a 64) (1)
 | 43=>fun x _=>x=Value.int .i64 (m:Int)
 | 44=>fun x _=>x=Value.int .i64 (2*(m:Int))
 | 45=>fun x _=>x=Value.int .i64 (2*(m:Int)+1)
 | 46=>fun x _=>x=Value.pointer (some ⟨gs,1,none⟩)
 | 47=>fun x _=>x=Value.pointer (some ⟨gs,q,none⟩)
 | 48=>fun x _=>x=Value.int .i64 b
 | 49=>VQ (fromQ b 64) (1)
 | 50=>VPG (fromQ a 64) (fromQ b 64) (1)
 | _=>fun _ _=>True
def B0_cofp (a:Int) (b:Int):BoxOp :=
 ⟨14,15,11,28,#[.bool false,.slice none 0 0,.slice none 0 0,.bool false,.slice none 0 0,.slice none 0 0],fun cs w=>∃ s A n c B m d t E i e F j f,cs=#[.bool s,.slice A n c,.slice B m d,.bool t,.slice E i e,.slice F j f]∧PG w s A n c B m d t E i e F j f (fromQ a 64) (fromQ b 64) (1)⟩
theorem cofp_region {id:Nat} {ac:Act} {Q:Exit→Act→World→Prop} {gs m p q:Nat} {a b:Int}
 (hsz:50 < ac.tmps.size) (e10:ac.eval (.tmp 10)=Value.int .i64 (m:Int)) (e4:ac.eval (.tmp 4)=Value.pointer (some ⟨gs,0,none⟩)) (X1:C1 w gs p (.int .i64 a)) (X2:C1 w gs q (.int .i64 b)) (hm:m < 3) (i1:(∀ w':World,(Instr.indexAt 29 (.pointer (some ⟨gs,1,none⟩)) (.int .i64 (2*(m:Int)))).run Tryz.prog w'=.ok (.pointer (some ⟨gs,p,none⟩)) w')) (i2:(∀ w':World,(Instr.indexAt 29 (.pointer (some ⟨gs,1,none⟩)) (.int .i64 (2*(m:Int)+1))).run Tryz.prog w'=.ok (.pointer (some ⟨gs,q,none⟩)) w')) (ha:i64In a) (hb:i64In b)
 (hend:∀ (V:Nat→Value) (w':World) (g0:Nat) (s0:Bool) (A0:Option Addr) (n0:Nat) (c0:Nat) (B0:Option Addr) (m0:Nat) (d0:Nat) (t0:Bool) (E0:Option Addr) (i0:Nat) (e0:Nat) (F0:Option Addr) (j0:Nat) (f0:Nat),PG w' s0 A0 n0 c0 B0 m0 d0 t0 E0 i0 e0 F0 j0 f0 (fromQ a 64) (fromQ b 64) (1)→B6 w' g0 (.bool s0) (.slice A0 n0 c0) (.slice B0 m0 d0) (.bool t0) (.slice E0 i0 e0) (.slice F0 j0 f0)→w.heap.size≤g0→V 11=.pointer (some ⟨g0,0,none⟩)→Below w.heap.size w w'→Q .normal (putAll ac [37,38,39,40,41,42,43,44,45,46,47,48,49,50,11] V) w') :
 (Code.region id #[o0_cofp,o1_cofp,o2_cofp,o3_cofp,o4_cofp,o5_cofp,o6_cofp,o7_cofp,o8_cofp,o9_cofp,o10_cofp,o11_cofp,o12_cofp,o13_cofp,o14_cofp,o15_cofp] true).wp Tryz.prog Q ac w:=by
 have hnd:L_cofp.Nodup:=by decide
 have G:∀ (sv:Nat→Value) (t:Nat),t ∈ L_cofp→t≤50→(putAll ac L_cofp sv).eval (.tmp t)=sv t:=fun sv t ht h=>eval_putAll_mem (t:=t) L_cofp ac hnd ht (Nat.lt_of_le_of_lt h hsz)
 have E10:∀ sv:Nat→Value,(putAll ac L_cofp sv).eval (.tmp 10)=Value.int .i64 (m:Int):=fun sv=>(eval_putAll_not (v:=sv) L_cofp ac (show 10 ∉ _ by decide)).trans e10
 have E4:∀ sv:Nat→Value,(putAll ac L_cofp sv).eval (.tmp 4)=Value.pointer (some ⟨gs,0,none⟩):=fun sv=>(eval_putAll_not (v:=sv) L_cofp ac (show 4 ∉ _ by decide)).trans e4
 have NE:∀ t:Nat,(t ≠ 11)→∀ p ∈ [B0_cofp a b],t ≠ p.tA:=by
  intro t ht p hp
  simp only [List.mem_cons,List.not_mem_nil,or_false] at hp
  rcases hp with rfl
  · exact ht
 refine wp_region_flowsT L_cofp [B0_cofp a b] (F_cofp gs m p q a b) (by kernel_rfl) (by kernel_rfl) rfl hnd ?_ ?_ ?_ ?_ ?_ ?_ ?_ ?_
 · intro p hp
   simp only [List.mem_cons,List.not_mem_nil,or_false] at hp
   rcases hp with rfl
   · refine ⟨⟨o14_cofp,rfl,rfl,rfl,fun e w'=>run_alloc6⟩,⟨o15_cofp,rfl,rfl,rfl,⟨14,.data⟩,by simp [o15_cofp],rfl,rfl⟩,free6 _ _ _ _ _ _ _ _ _ _ _ _ _ _,?_,?_⟩
     · rintro cs w1 w2 ⟨s_,A_,n_,c_,B_,m_,d_,t_,E_,i_,e_,F_,j_,f_,rfl,h⟩ hb;exact ⟨s_,A_,n_,c_,B_,m_,d_,t_,E_,i_,e_,F_,j_,f_,rfl,h.below hb⟩
     · rintro T cs w1 w2 g c0 ⟨s_,A_,n_,c_,B_,m_,d_,t_,E_,i_,e_,F_,j_,f_,rfl,h⟩ hB ho;exact ⟨s_,A_,n_,c_,B_,m_,d_,t_,E_,i_,e_,F_,j_,f_,rfl,h.box hB ho⟩
 · intro p hp q hq h
   simp only [List.mem_cons,List.not_mem_nil,or_false] at hp hq
   rcases hp with rfl <;> rcases hq with rfl
   · rfl
 · intro p hp q hq h
   simp only [List.mem_cons,List.not_mem_nil,or_false] at hp hq
   rcases hp with rfl <;> rcases hq with rfl
   · rfl
 · intro i o h1 h2
   match i,h1 with
   | 0,h1=>cases h1;cases h2
   | 1,h1=>cases h1;cases h2
   | 2,h1=>cases h1;cases h2
   | 3,h1=>cases h1;cases h2
   | 4,h1=>cases h1;cases h2
   | 5,h1=>cases h1;cases h2
   | 6,h1=>cases h1;cases h2
   | 7,h1=>cases h1;cases h2
   | 8,h1=>cases h1;cases h2
   | 9,h1=>cases h1;cases h2
   | 10,h1=>cases h1;cases h2
   | 11,h1=>cases h1;cases h2
   | 12,h1=>cases h1;cases h2
   | 13,h1=>cases h1;cases h2
   | 14,h1=>cases h1;cases h2
   | 15,h1=>exact ⟨B0_cofp a b,List.Mem.head _,rfl⟩
   | i+16,h1=>cases h1
 · intro t
   unfold F_cofp
   split <;> first | exact (stays_eq _).inn _ | exact (stays_q _ _).inn _ | exact (stays_z _ _).inn _ | exact (stays_r _ _).inn _ | exact (stays_rq _ _).inn _ | exact (stays_pg _ _ _).inn _ | exact (stays_true).inn _
 · intro i o t sv w' ho hia hd J0 hf
   have X1:=X1.below J0;have X2:=X2.below J0
   match i,ho with
   | 0,ho =>
     obtain rfl:o0_cofp=o:=Option.some.inj ho
     cases hd
     refine wpOp_plain' (o:=o0_cofp) rfl rfl ?_
     unfold Oper.wp o0_cofp
     rw [run_move (E10 sv),Oper.upon_value]
     exact ⟨_,rfl,Below.refl _ _,rfl⟩
   | 1,ho =>
     obtain rfl:o1_cofp=o:=Option.some.inj ho
     cases hd
     have f37:sv 37=Value.int .i64 (m:Int):=hf ⟨0,.data⟩ (by simp [o1_cofp]) rfl _ 37 rfl rfl (NE _ (by decide))
     refine wpOp_plain' (o:=o1_cofp) rfl rfl ?_
     unfold Oper.wp o1_cofp
     rw [run_sg_mul ((G sv 37 (by decide) (by decide)).trans f37) (IntWalk.i64_in _ (by omega)) rfl,Oper.upon_value]
     exact ⟨_,rfl,Below.refl _ _,rfl⟩
   | 2,ho =>
     obtain rfl:o2_cofp=o:=Option.some.inj ho
     cases hd
     refine wpOp_plain' (o:=o2_cofp) rfl rfl ?_
     unfold Oper.wp o2_cofp
     rw [run_sg_fa (E4 sv) ,Oper.upon_value]
     exact ⟨_,rfl,Below.refl _ _,rfl⟩
   | 3,ho =>
     obtain rfl:o3_cofp=o:=Option.some.inj ho
     cases hd
     have f39:sv 39=Value.pointer (some ⟨gs,1,none⟩):=hf ⟨2,.data⟩ (by simp [o3_cofp]) rfl _ 39 rfl rfl (NE _ (by decide))
     have f38:sv 38=Value.int .i64 (2*(m:Int)):=hf ⟨1,.data⟩ (by simp [o3_cofp]) rfl _ 38 rfl rfl (NE _ (by decide))
     refine wpOp_plain' (o:=o3_cofp) rfl rfl ?_
     unfold Oper.wp o3_cofp
     rw [run_sg_ia ((G sv 39 (by decide) (by decide)).trans f39) ((G sv 38 (by decide) (by decide)).trans f38) i1,Oper.upon_value]
     exact ⟨_,rfl,Below.refl _ _,rfl⟩
   | 4,ho =>
     obtain rfl:o4_cofp=o:=Option.some.inj ho
     cases hd
     have f40:sv 40=Value.pointer (some ⟨gs,p,none⟩):=hf ⟨3,.data⟩ (by simp [o4_cofp]) rfl _ 40 rfl rfl (NE _ (by decide))
     refine wpOp_plain' (o:=o4_cofp) rfl rfl ?_
     unfold Oper.wp o4_cofp
     rw [run_sg_ld ((G sv 40 (by decide) (by decide)).trans f40) X1,Oper.upon_value]
     exact ⟨_,rfl,Below.refl _ _,rfl⟩
   | 5,ho =>
     obtain rfl:o5_cofp=o:=Option.some.inj ho
     cases hd
     have f41:sv 41=Value.int .i64 a:=hf ⟨4,.data⟩ (by simp [o5_cofp]) rfl _ 41 rfl rfl (NE _ (by decide))
     refine wpOp_plain' (o:=o5_cofp) rfl rfl ?_
     unfold Oper.wp o5_cofp
     rw [rc_gesso_fix_From ((G sv 41 (by decide) (by decide)).trans f41) (show (putAll ac L_cofp sv).eval (.const (Value.int IntKind.i64 64))=(Value.int IntKind.i64 64) from rfl) rfl,Oper.upon_enter]
     refine (from_all a 64 ha.1 ha.2 (by decide) (by decide) _).mono ?_
     rintro e w1 ⟨s_,A_,n_,c_,B_,m_,d_,rfl,hq,hh⟩
     exact ⟨_,rfl,hh,s_,A_,n_,c_,B_,m_,d_,rfl,hq⟩
   | 6,ho =>
     obtain rfl:o6_cofp=o:=Option.some.inj ho
     cases hd
     refine wpOp_plain' (o:=o6_cofp) rfl rfl ?_
     unfold Oper.wp o6_cofp
     rw [run_move (E10 sv),Oper.upon_value]
     exact ⟨_,rfl,Below.refl _ _,rfl⟩
   | 7,ho =>
     obtain rfl:o7_cofp=o:=Option.some.inj ho
     cases hd
     have f43:sv 43=Value.int .i64 (m:Int):=hf ⟨6,.data⟩ (by simp [o7_cofp]) rfl _ 43 rfl rfl (NE _ (by decide))
     refine wpOp_plain' (o:=o7_cofp) rfl rfl ?_
     unfold Oper.wp o7_cofp
     rw [run_sg_mul ((G sv 43 (by decide) (by decide)).trans f43) (IntWalk.i64_in _ (by omega)) rfl,Oper.upon_value]
     exact ⟨_,rfl,Below.refl _ _,rfl⟩
   | 8,ho =>
     obtain rfl:o8_cofp=o:=Option.some.inj ho
     cases hd
     have f44:sv 44=Value.int .i64 (2*(m:Int)):=hf ⟨7,.data⟩ (by simp [o8_cofp]) rfl _ 44 rfl rfl (NE _ (by decide))
     refine wpOp_plain' (o:=o8_cofp) rfl rfl ?_
     unfold Oper.wp o8_cofp
     rw [run_sg_add ((G sv 44 (by decide) (by decide)).trans f44) (IntWalk.i64_in _ (by omega)) rfl,Oper.upon_value]
     exact ⟨_,rfl,Below.refl _ _,rfl⟩
   | 9,ho =>
     obtain rfl:o9_cofp=o:=Option.some.inj ho
     cases hd
     refine wpOp_plain' (o:=o9_cofp) rfl rfl ?_
     unfold Oper.wp o9_cofp
     rw [run_sg_fa (E4 sv) ,Oper.upon_value]
     exact ⟨_,rfl,Below.refl _ _,rfl⟩
   | 10,ho =>
     obtain rfl:o10_cofp=o:=Option.some.inj ho
     cases hd
     have f46:sv 46=Value.pointer (some ⟨gs,1,none⟩):=hf ⟨9,.data⟩ (by simp [o10_cofp]) rfl _ 46 rfl rfl (NE _ (by decide))
     have f45:sv 45=Value.int .i64 (2*(m:Int)+1):=hf ⟨8,.data⟩ (by simp [o10_cofp]) rfl _ 45 rfl rfl (NE _ (by decide))
     refine wpOp_plain' (o:=o10_cofp) rfl rfl ?_
     unfold Oper.wp o10_cofp
     rw [run_sg_ia ((G sv 46 (by decide) (by decide)).trans f46) ((G sv 45 (by decide) (by decide)).trans f45) i2,Oper.upon_value]
     exact ⟨_,rfl,Below.refl _ _,rfl⟩
   | 11,ho =>
     obtain rfl:o11_cofp=o:=Option.some.inj ho
     cases hd
     have f47:sv 47=Value.pointer (some ⟨gs,q,none⟩):=hf ⟨10,.data⟩ (by simp [o11_cofp]) rfl _ 47 rfl rfl (NE _ (by decide))
     refine wpOp_plain' (o:=o11_cofp) rfl rfl ?_
     unfold Oper.wp o11_cofp
     rw [run_sg_ld ((G sv 47 (by decide) (by decide)).trans f47) X2,Oper.upon_value]
     exact ⟨_,rfl,Below.refl _ _,rfl⟩
   | 12,ho =>
     obtain rfl:o12_cofp=o:=Option.some.inj ho
     cases hd
     have f48:sv 48=Value.int .i64 b:=hf ⟨11,.data⟩ (by simp [o12_cofp]) rfl _ 48 rfl rfl (NE _ (by decide))
     refine wpOp_plain' (o:=o12_cofp) rfl rfl ?_
     unfold Oper.wp o12_cofp
     rw [rc_gesso_fix_From ((G sv 48 (by decide) (by decide)).trans f48) (show (putAll ac L_cofp sv).eval (.const (Value.int IntKind.i64 64))=(Value.int IntKind.i64 64) from rfl) rfl,Oper.upon_enter]
     refine (from_all b 64 hb.1 hb.2 (by decide) (by decide) _).mono ?_
     rintro e w1 ⟨s_,A_,n_,c_,B_,m_,d_,rfl,hq,hh⟩
     exact ⟨_,rfl,hh,s_,A_,n_,c_,B_,m_,d_,rfl,hq⟩
   | 13,ho =>
     obtain rfl:o13_cofp=o:=Option.some.inj ho
     cases hd
     have h42:VQ (fromQ a 64) (1) (sv 42) w':=hf ⟨5,.data⟩ (by simp [o13_cofp]) rfl _ 42 rfl rfl (NE _ (by decide))
     obtain ⟨s42_,A42_,n42_,c42_,B42_,m42_,d42_,f42,q42⟩:=h42
     have h49:VQ (fromQ b 64) (1) (sv 49) w':=hf ⟨12,.data⟩ (by simp [o13_cofp]) rfl _ 49 rfl rfl (NE _ (by decide))
     obtain ⟨s49_,A49_,n49_,c49_,B49_,m49_,d49_,f49,q49⟩:=h49
     refine wpOp_plain' (o:=o13_cofp) rfl rfl ?_
     unfold Oper.wp o13_cofp
     rw [run_build6 ((G sv 42 (by decide) (by decide)).trans f42) ((G sv 49 (by decide) (by decide)).trans f49) ,Oper.upon_value]
     exact ⟨_,rfl,Below.refl _ _,_,_,_,_,_,_,_,_,_,_,_,_,_,_,rfl,q42,q49⟩
   | 14,ho=>cases ho;cases hd;exact absurd rfl (hia (B0_cofp a b) (List.Mem.head _))
   | 15,ho=>cases ho;cases hd
   | i+16,ho=>cases ho
 · intro p hp os sv w' g hos J0 p1 p3 hf
   simp only [List.mem_cons,List.not_mem_nil,or_false] at hp
   rcases hp with rfl
   · obtain rfl:o15_cofp=os:=Option.some.inj hos
     have h1:VPG (fromQ a 64) (fromQ b 64) (1) (sv 50) w':=hf ⟨13,.data⟩ (by simp [o15_cofp]) rfl _ 50 rfl rfl (NE _ (by decide))
     rw [← G sv 50 (by decide) (by decide)] at h1
     refine store_pg (x:=fromQ a 64) (y:=fromQ b 64) (k:=1) (ac:=putAll ac L_cofp sv) (z:=.tmp 50) ?_ ?_ ?_
     · exact (G sv 11 (by decide) (by decide)).trans p1
     · exact h1
     · exact p3
 · intro sv w' J0 hF hB hap
   obtain ⟨g0,cs0,p0,r0,b0,⟨s0,A0,n0,c0,B0,m0,d0,t0,E0,i0,e0,F0,j0,f0,rfl,h0⟩⟩:=hB (B0_cofp a b) (List.Mem.head _)
   have p0':sv 11=.pointer (some ⟨g0,0,none⟩):=p0
   exact hend sv w' g0 _ _ _ _ _ _ _ _ _ _ _ _ _ _ h0 b0.at_ r0 p0'   J0
def ofA (v:AM) (u:SV8) (i:Nat):AH:=⟨v.ax (fromQ (u.at_ (2*i)) 64) (fromQ (u.at_ (2*i+1)) 64)*wgtQ u i,v.ay (fromQ (u.at_ (2*i)) 64) (fromQ (u.at_ (2*i+1)) 64)*wgtQ u i,wgtQ u i⟩
def ofL (v:AM) (x y:Rat) (u:SV8) (n:Nat):List AH:=⟨v.ax x y*1,v.ay x y*1,1⟩ :: (List.range n).map (ofA v u)
theorem ofL_length (v:AM) (x y:Rat) (u:SV8) (n:Nat):(ofL v x y u n).length=n+1:=by simp [ofL]
theorem ofL_get {v:AM} {x y:Rat} {u:SV8} {n m:Nat} (h:m < n):(ofL v x y u n)[m+1]?=some (ofA v u m):=by simp [ofL,h]
theorem B18.pushX {w w':World} {g:Nat} {v0 v1 v2 v3 v4 v5 v6 v7 v8 v9 v10 v11 v12 v13 v14 v15 v16 v17:Value} {row:Option Nat} (h:B18 w g v0 v1 v2 v3 v4 v5 v6 v7 v8 v9 v10 v11 v12 v13 v14 v15 v16 v17) (hg:w.grownBy w' row) (hne:∀ k,row=some k→k ≠ g):B18 w' g v0 v1 v2 v3 v4 v5 v6 v7 v8 v9 v10 v11 v12 v13 v14 v15 v16 v17:=(hg.block g h.lt (fun e=>hne g e.symm rfl)).trans h
theorem B6.pushX {w w':World} {g:Nat} {x y z u v t:Value} {row:Option Nat} (h:B6 w g x y z u v t) (hg:w.grownBy w' row) (hne:∀ k,row=some k→k ≠ g):B6 w' g x y z u v t:=(hg.block g h.lt (fun e=>hne g e.symm rfl)).trans h
theorem BS.pushX {w w':World} {g:Nat} {v0 v1 v2 v3 v4 v5 v6 v7:Value} {row:Option Nat} (h:BS w g v0 v1 v2 v3 v4 v5 v6 v7) (hg:w.grownBy w' row) (hne:∀ k,row=some k→k ≠ g):BS w' g v0 v1 v2 v3 v4 v5 v6 v7:=(hg.block g h.lt (fun e=>hne g e.symm rfl)).trans h
def GivesHsE (w:World) (l:List AH) (k:Nat) (en:Ending) (w':World):Prop :=
 ∃ v M,en=.returned (.tuple #[v,.int .i64 0])∧LnH 73 w.heap.size w' v M∧EachH HG w' M l k∧Below w.heap.size w w'
theorem mkbx44_15 {w W:World} {x0 x1 x2 x3 x4 x5 x6 x7 x8 x9 x10 x11 x12 x13 x14 x15 x16 x17 x18 x19 x20 x21 x22 x23 x24 x25 x26 x27 x28 x29 x30 x31:Value} (h:(((w.alloc (Obj.cells #[x0,x1,x2,x3,x4,x5] 28)).alloc (Obj.cells #[x6,x7,x8,x9,x10,x11,x12,x13] 31)).alloc (Obj.cells #[x14,x15,x16,x17,x18,x19,x20,x21,x22,x23,x24,x25,x26,x27,x28,x29,x30,x31] 33))=W):Below w.heap.size w W∧B6 W (w.heap.size) x0 x1 x2 x3 x4 x5∧BS W (w.heap.size+1) x6 x7 x8 x9 x10 x11 x12 x13∧B18 W (w.heap.size+1+1) x14 x15 x16 x17 x18 x19 x20 x21 x22 x23 x24 x25 x26 x27 x28 x29 x30 x31∧W.heap.size=w.heap.size+3:=by subst h;exact ⟨by exact ((((Below.refl _ _).alloc (Nat.le_refl _) _).alloc (by simp) _).alloc (by simp;omega) _),by exact ((B6.new' _ _ _ _ _ _ _ _ rfl).alloc _).alloc _,by exact (BS.new' _ _ _ _ _ _ _ _ _ _ (by simp)).alloc _,by exact B18.new' _ _ _ _ _ _ _ _ _ _ _ _ _ _ _ _ _ _ _ _ (by simp),by simp⟩
theorem cof_5 {k l kp:Nat} {v:AM} {m:MV} {fx fy:Rat} (u:SV8) (p:PR w s_p A_p n_p c_p B_p m_p d_p t_p E_p i_p e_p F_p j_p f_p fx fy kp) (M:MR w m v k l) (hin:u.In) (hkk:k+kp≤10000) (hl:l≤9000) (h1:1≤k) (h2:1≤kp) (h3:1≤l) (n:Nat) (hn:cntK u.k=n) (hn1:1≤n) (hk:u.k=5) (hw:1≤u.w) :
 Calls Tryz.prog 11 #[.agg #[.bool s_p,.slice A_p n_p c_p,.slice B_p m_p d_p,.bool t_p,.slice E_p i_p e_p,.slice F_p j_p f_p],.agg #[.int .i64 u.k,.int .i64 u.v0,.int .i64 u.v1,.int .i64 u.v2,.int .i64 u.v3,.int .i64 u.v4,.int .i64 u.v5,.int .i64 u.w],.agg #[.bool m.a.s,.slice m.a.A m.a.n m.a.c,.slice m.a.B m.a.m m.a.d,.bool m.b.s,.slice m.b.A m.b.n m.b.c,.slice m.b.B m.b.m m.b.d,.bool m.c.s,.slice m.c.A m.c.n m.c.c,.slice m.c.B m.c.m m.c.d,.bool m.d.s,.slice m.d.A m.d.n m.d.c,.slice m.d.B m.d.m m.d.d,.bool m.e.s,.slice m.e.A m.e.n m.e.c,.slice m.e.B m.e.m m.e.d,.bool m.f.s,.slice m.f.A m.f.n m.f.c,.slice m.f.B m.f.m m.f.d]] w (GivesHsE w (ofL v fx fy u n) ((k+kp+(k+kp)+1+l+1)+1)):=by
 have hn3:n≤3:=by rw [← hn];exact cntK_le _
 have HN:=Lib.hid hn;have HIN:=Lib.hid hin
 have hnb:((n:Int) == 0)=false:=by simp;omega
 clear hn hin
 have hkb:(u.k == 5)=true:=by simp [hk]
 have hw2:¬ u.w < 1:=by omega
 clear hk hw
 go_enter Tryz.func11,Tryz.ntmps11
 go_upto_region 1 with (fail)
 generalize hW:World.alloc _ _=W
 obtain ⟨hb,XF,XS,XM,hzW⟩:=mkbx44_15 hW;clear hW;replace p:=p.below hb;replace M:=M.below hb;have XS9:=Lib.hid XS;have XM9:=Lib.hid XM;have M9:=Lib.hid M;have HB9:=Lib.hid hb;obtain ⟨xf0,xf1,xf2,xf3,xf4,xf5⟩:=XF.all;obtain ⟨xs0,xs1,xs2,xs3,xs4,xs5,xs6,xs7⟩:=XS.all;have xml:=XM.ld
 replace hb:Below W.heap.size W W:=Below.refl _ _
 go_wp2_with (first
  | (go_at_call 41;(with_reducible refine (cpoints_i u.k _).mono ?_);rintro e w_z ⟨rfl,rfl⟩;rw [HN.out])
  | (go_at_call 34;(with_reducible refine (mapply_p M p (by omega) (by omega) h1 h2 h3).mono ?_);rintro e w_r ⟨s_r,A_r,n_r,c_r,B_r,m_r,d_r,t_r,E_r,i_r,e_r,F_r,j_r,f_r,rfl,r,hh⟩
     replace hb:=bend hb hh)
  | (go_at_call 43;(with_reducible refine (cone_q _).mono ?_);rintro e w_o ⟨s_o,A_o,n_o,c_o,B_o,m_o,d_o,rfl,o,hh⟩
     (try replace r:=r.below hh);replace hb:=bend hb hh;rw [one_q] at o)
  | (go_at_call 42;(with_reducible refine (cweighted_h r.pr o (by omega) (by decide) (by omega) (by decide)).mono ?_);rintro e w_y ⟨y,rfl,yh,hh⟩
     replace hb:=bend hb hh))
 have hLit:=LnH.lit (T:=73) (base:=W.heap.size) w_y [y] hb.size (by simp)
 have hal:Below w_y.heap.size w_y (w_y.alloc (Obj.cells #[Value.bool y.x.s,Value.slice y.x.A y.x.n y.x.c,Value.slice y.x.B y.x.m y.x.d,Value.bool y.y.s,Value.slice y.y.A y.y.n y.y.c,Value.slice y.y.B y.y.m y.y.d,Value.bool y.w.s,Value.slice y.w.A y.w.n y.w.c,Value.slice y.w.B y.w.m y.w.d] 73)):=((Below.refl _ _).alloc (Nat.le_refl _) _)
 have yh9:=Lib.hid (yh.below hal)
 have hbA:=Lib.hid (bend hb hal)
 clear r o yh XF XS XM p M xs0 xs1 xs2 xs3 xs4 xs5 xs6 xs7 xf0 xf1 xf2 xf3 xf4 xf5 xml
 go_loopg [9,34] n (fun gk out ix wr=>∃ (L:List HV) (j:Nat),Hid (gk+j=n)∧ix=.int .i64 (j:Int)∧LnH 73 W.heap.size wr out L∧Hid (EachH HG wr L ((ofL v fx fy u n).take (j+1)) ((k+kp+(k+kp)+1+l+1)+1))∧Below W.heap.size W wr)
 case atStart=>exact ⟨[y],0,Nat.add_zero _,rfl,hLit,⟨by simp [ofL],fun i a b ha hb=>by
  match i with
  | 0=>cases ha;cases hb;exact yh9.out
  | i+1=>cases ha⟩,hbA.out⟩
 case round =>
  obtain ⟨L,j,HGK,rfl,LT,HQ,hB⟩:=hrel
  by_cases hmn:j < n
  · have XS:=XS9.out.below hB
    have XM:=XM9.out.below hB;have M:=M9.out.below hB
    have hlt:(j:Int) < (n:Int):=by omega
    have hwr:IntKind.i64.wrap ((j:Int)+1)=(j:Int)+1:=IntWalk.i64_in _ (by omega)
    have HU:=Lib.hid (ofL_get (v:=v) (x:=fx) (y:=fy) (u:=u) hmn)
    have hMl:L.length≤1000000:=by have:=HQ.out.1;rw [List.length_take] at this;omega
    have HMN:=Lib.hid hmn
    have X1:C1 wr (w.heap.size+1) (1+2*j) (.int .i64 (u.at_ (2*j))):=XS.cv (2*j) (by omega)
    have X2:C1 wr (w.heap.size+1) (1+(2*j+1)) (.int .i64 (u.at_ (2*j+1))):=XS.cv (2*j+1) (by omega)
    have i1:∀ w':World,(Instr.indexAt 29 (.pointer (some ⟨w.heap.size+1,1,none⟩)) (.int .i64 (2*(j:Int)))).run Tryz.prog w'=.ok (.pointer (some ⟨w.heap.size+1,1+2*j,none⟩)) w':=fun w'=>by have h9:=ats_m (w.heap.size+1) (2*j) (by omega) w';rwa [show ((2*j:Nat):Int)=2*(j:Int) by omega] at h9
    have i2:∀ w':World,(Instr.indexAt 29 (.pointer (some ⟨w.heap.size+1,1,none⟩)) (.int .i64 (2*(j:Int)+1))).run Tryz.prog w'=.ok (.pointer (some ⟨w.heap.size+1,1+(2*j+1),none⟩)) w':=fun w'=>by have h9:=ats_m (w.heap.size+1) (2*j+1) (by omega) w';rwa [show ((2*j+1:Nat):Int)=2*(j:Int)+1 by omega] at h9
    have hj3:j < 3:=by omega
    have ha0:=HIN.out.2.1 (2*j)
    have hb0:=HIN.out.2.1 (2*j+1)
    clear hmn
    go_upto_region 8 with (fail)
    refine cofp_region (by simp) rfl rfl X1 X2 hj3 i1 i2 ha0 hb0 ?_
    intro V1 w_r g_r s_r A_r n_r c_r B_r m_r d_r t_r E_r i_r e_r F_r j_r f_r r XP hg_r hvr hh
    simp only [putAll,Act.put,List.setIfInBounds_toArray,List.set_cons_zero,List.set_cons_succ,hvr]
    clear hvr X1 X2 i1 i2 ha0 hb0
    have hxp:∀ b,u9.ownBlock=some b→b ≠ g_r:=fun b e=>by have h5:=(LT.own.lt b e).2;omega
    replace XS:=XS.below hh;replace XM:=XM.below hh;replace M:=M.below hh;replace LT:=LT.below hh
    have hxs:∀ b,u9.ownBlock=some b→b ≠ w.heap.size+1:=fun b e=>by have:=LT.own_base e;omega
    have hxm:∀ b,u9.ownBlock=some b→b ≠ w.heap.size+1+1:=fun b e=>by have:=LT.own_base e;omega
    replace HQ:=Lib.hid (EachH.belowG HQ.out hh)
    replace hB:=bend hB hh;clear hh
    go_upto_region 9 with (fail)
    replace LT:=LT.below (Below.refl _ _).drew
    replace XP:=XP.below (Below.refl _ _).drew
    replace XS:=XS.below (Below.refl _ _).drew
    replace XM:=XM.below (Below.refl _ _).drew
    replace r:=r.below (Below.refl _ _).drew
    replace M:=M.below (Below.refl _ _).drew
    replace HQ:=Lib.hid (EachH.belowG HQ.out (Below.refl _ _).drew)
    replace hB:=hB.drew;have hiw:=HIN.out.2.2
    go_region_held3 (fun w'=>(LVM ⟨w.heap.size+1+1,0,none⟩).run Tryz.prog w'=.ok (.agg #[.bool m.a.s,.slice m.a.A m.a.n m.a.c,.slice m.a.B m.a.m m.a.d,.bool m.b.s,.slice m.b.A m.b.n m.b.c,.slice m.b.B m.b.m m.b.d,.bool m.c.s,.slice m.c.A m.c.n m.c.c,.slice m.c.B m.c.m m.c.d,.bool m.d.s,.slice m.d.A m.d.n m.d.c,.slice m.d.B m.d.m m.d.d,.bool m.e.s,.slice m.e.A m.e.n m.e.c,.slice m.e.B m.e.m m.e.d,.bool m.f.s,.slice m.f.A m.f.n m.f.c,.slice m.f.B m.f.m m.f.d]) w'∧w'.cell? ⟨g_r,0,none⟩=some (.bool s_r)∧w'.cell? ⟨g_r,1,none⟩=some (.slice A_r n_r c_r)∧w'.cell? ⟨g_r,2,none⟩=some (.slice B_r m_r d_r)∧w'.cell? ⟨g_r,3,none⟩=some (.bool t_r)∧w'.cell? ⟨g_r,4,none⟩=some (.slice E_r i_r e_r)∧w'.cell? ⟨g_r,5,none⟩=some (.slice F_r j_r f_r)∧w'.cell? ⟨w.heap.size+1,0,none⟩=some (.int .i64 u.k)∧w'.cell? ⟨w.heap.size+1,1,none⟩=some (.int .i64 u.v0)∧w'.cell? ⟨w.heap.size+1,2,none⟩=some (.int .i64 u.v1)∧w'.cell? ⟨w.heap.size+1,3,none⟩=some (.int .i64 u.v2)∧w'.cell? ⟨w.heap.size+1,4,none⟩=some (.int .i64 u.v3)∧w'.cell? ⟨w.heap.size+1,5,none⟩=some (.int .i64 u.v4)∧w'.cell? ⟨w.heap.size+1,6,none⟩=some (.int .i64 u.v5)∧w'.cell? ⟨w.heap.size+1,7,none⟩=some (.int .i64 u.w))
     (first | with_reducible exact ⟨XMb.ld,XPb.c0,XPb.c1,XPb.c2,XPb.c3,XPb.c4,XPb.c5,XSb.c0,XSb.c1,XSb.c2,XSb.c3,XSb.c4,XSb.c5,XSb.c6,XSb.c7⟩ | with_reducible exact ⟨XM.ld,XP.c0,XP.c1,XP.c2,XP.c3,XP.c4,XP.c5,XS.c0,XS.c1,XS.c2,XS.c3,XS.c4,XS.c5,XS.c6,XS.c7⟩ | exact ⟨(XM.below ((Below.refl _ _).alloc (Nat.le_refl _) _)).ld,(XP.below ((Below.refl _ _).alloc (Nat.le_refl _) _)).c0,(XP.below ((Below.refl _ _).alloc (Nat.le_refl _) _)).c1,(XP.below ((Below.refl _ _).alloc (Nat.le_refl _) _)).c2,(XP.below ((Below.refl _ _).alloc (Nat.le_refl _) _)).c3,(XP.below ((Below.refl _ _).alloc (Nat.le_refl _) _)).c4,(XP.below ((Below.refl _ _).alloc (Nat.le_refl _) _)).c5,(XS.below ((Below.refl _ _).alloc (Nat.le_refl _) _)).c0,(XS.below ((Below.refl _ _).alloc (Nat.le_refl _) _)).c1,(XS.below ((Below.refl _ _).alloc (Nat.le_refl _) _)).c2,(XS.below ((Below.refl _ _).alloc (Nat.le_refl _) _)).c3,(XS.below ((Below.refl _ _).alloc (Nat.le_refl _) _)).c4,(XS.below ((Below.refl _ _).alloc (Nat.le_refl _) _)).c5,(XS.below ((Below.refl _ _).alloc (Nat.le_refl _) _)).c6,(XS.below ((Below.refl _ _).alloc (Nat.le_refl _) _)).c7⟩)
     (first
     | (go_at_call 34;(with_reducible refine (mapply_p M r.pr (by omega) (by omega) h1 (by decide) h3).mono ?_);rintro e w_q1 ⟨s_q1,A_q1,n_q1,c_q1,B_q1,m_q1,d_q1,t_q1,E_q1,i_q1,e_q1,F_q1,j_q1,f_q1,rfl,q1,hh⟩
        (try replace LT:=LT.below hh);(try replace XP:=XP.below hh);(try replace XS:=XS.below hh);(try replace XM:=XM.below hh);(try replace r:=r.below hh);(try replace M:=M.below hh)
        replace HQ:=Lib.hid (EachH.belowG HQ.out hh)
        replace hB:=bend hB hh)
     | (go_at_call 45;(with_reducible refine (cweight_q u j hiw).mono ?_);rintro e w_o ⟨s_o,A_o,n_o,c_o,B_o,m_o,d_o,rfl,o,hh⟩
        (try replace LT:=LT.below hh);(try replace XP:=XP.below hh);(try replace XS:=XS.below hh);(try replace XM:=XM.below hh);(try replace r:=r.below hh);(try replace M:=M.below hh);(try replace q1:=q1.below hh)
        replace HQ:=Lib.hid (EachH.belowG HQ.out hh)
        replace hB:=bend hB hh)
     | (go_at_call 42;(with_reducible refine (cweighted_h q1.pr o (by omega) (by decide) (by omega) (by decide)).mono ?_);rintro e w_y ⟨y,rfl,yh,hh⟩
        (try replace LT:=LT.below hh);(try replace XP:=XP.below hh);(try replace XS:=XS.below hh);(try replace XM:=XM.below hh);(try replace r:=r.below hh);(try replace M:=M.below hh)
        replace HQ:=Lib.hid (EachH.belowG HQ.out hh)
        replace hB:=bend hB hh)
     | (have hal:Below w_y.heap.size w_y (w_y.alloc (Obj.cells #[Value.bool y.x.s,Value.slice y.x.A y.x.n y.x.c,Value.slice y.x.B y.x.m y.x.d,Value.bool y.y.s,Value.slice y.y.A y.y.n y.y.c,Value.slice y.y.B y.y.m y.y.d,Value.bool y.w.s,Value.slice y.w.A y.w.n y.w.c,Value.slice y.w.B y.w.m y.w.d] 73)):=((Below.refl _ _).alloc (Nat.le_refl _) _)
        have XMa:=XM.below hal;have XPa:=XP.below hal;have XSa:=XS.below hal
        refine step_pushH Tryz.underlying37 info_hom (by rfl) _ _ (by rfl) (p:=y) (k0:=1) (b:=w_y.heap.size) (by rfl) (by rfl) (LT.below hal) (Nat.le_trans hB.size hal.size) hMl (heap_alloc_new w_y _) ?_
        intro v3 w3 hn3 hg3 ho3
        have XMb:=XMa.pushX hg3 hxm;have XPb:=XPa.pushX hg3 hxp;have XSb:=XSa.pushX hg3 hxs))
    have hE3:EachH HG (w_y.alloc (Obj.cells #[Value.bool y.x.s,Value.slice y.x.A y.x.n y.x.c,Value.slice y.x.B y.x.m y.x.d,Value.bool y.y.s,Value.slice y.y.A y.y.n y.y.c,Value.slice y.y.B y.y.m y.y.d,Value.bool y.w.s,Value.slice y.w.A y.w.n y.w.c,Value.slice y.w.B y.w.m y.w.d] 73)) L ((ofL v fx fy u n).take (j+1)) ((k+kp+(k+kp)+1+l+1)+1):=EachH.belowG HQ.out hal
    have hp3:HG (w_y.alloc (Obj.cells #[Value.bool y.x.s,Value.slice y.x.A y.x.n y.x.c,Value.slice y.x.B y.x.m y.x.d,Value.bool y.y.s,Value.slice y.y.A y.y.n y.y.c,Value.slice y.y.B y.y.m y.y.d,Value.bool y.w.s,Value.slice y.w.A y.w.n y.w.c,Value.slice y.w.B y.w.m y.w.d] 73)) y (ofA v u j) ((k+kp+(k+kp)+1+l+1)+1):=(yh.below hal).more (by omega)
    have hB9:=LnH.under (T:=73) (base:=W.heap.size) (LT.below hal) hg3 (w0:=W) (bend hB hal) (Nat.le_refl _)
    have hE4:=takeH HU.out (EachH.push hE3 (fun _ _ h=>(LT.below hal).hg hg3 h) ((LT.below hal).hg hg3 hp3))
    clear hE3 hp3 XMa XPa XSa XMb XPb XSb XM XP XS r M yh q1 o
    go_wp2_with fail
    go_roundg (gk - 1)
    case measure=>have:=HGK.out;have:=HMN.out;omega
    case rel=>exact ⟨L ++ [y],j+1,by have:=HGK.out;have:=HMN.out;show _=_;omega,by go_num,hn3,hE4,hB9⟩
  · have hlt:¬ (j:Int) < (n:Int):=by omega
    have HQ2:Hid (EachH HG wr L (ofL v fx fy u n) ((k+kp+(k+kp)+1+l+1)+1)):=by
     have h:=HQ.out
     rwa [List.take_of_length_le (by rw [ofL_length];omega)] at h
    clear hmn
    go_wp2_with fail
    (try rw [Exit.noGoto_ret])
    go_ret2
    exact ⟨_,L,rfl,LT.base_le (by have:=HB9.out.size;omega),HQ2.out,bend HB9.out hB⟩
end
section
open Go Go.RowKit
theorem GivesLn.more {w w':World} {l:List (Rat × Rat)} {k k2:Nat} {en:Ending} (h:GivesLn w l k en w') (hk:k≤k2):GivesLn w l k2 en w':=by
 obtain ⟨v,L,h1,h2,h3,h4⟩:=h
 exact ⟨v,L,h1,h2,⟨h3.1,fun i p u hp hu=>PG.more (h3.2 i p u hp hu) hk⟩,h4⟩
end
section
open Go Go.RowKit
theorem Each.belowR {w w':World} {L:List PV} {l:List (Rat × Rat)} {k:Nat} (h:Each PV.RP w L l k) (hb:Below w.heap.size w w'):Each PV.RP w' L l k:=h.imp fun _ _ hp=>RP.below hp hb
theorem B6R.rest {w w':World} {g k:Nat} {x y z u v t:Value} (h:B6R w g x y z u v t) (hne:g ≠ k) (ho:Only k w w'):B6R w' g x y z u v t:=(ho.block g h.lt hne).trans h
end
section
open Go Go.RowKit
def PV.small (M:Nat) (p:PV):Prop:=(p.n≤M∧p.m≤M)∧p.i≤M∧p.j≤M
instance (M:Nat) (p:PV):Decidable (p.small M):=by unfold PV.small;exact inferInstance
end
section
open Go Go.RowKit
attribute [local go_sem ↓] open_LVH open_STH open_LVJ open_STJ
def QV.small (M:Nat) (q:QV):Prop:=q.n≤M∧q.m≤M
instance (M:Nat) (q:QV):Decidable (q.small M):=by unfold QV.small;exact inferInstance
def HV.small (M:Nat) (p:HV):Prop:=p.x.small M∧p.y.small M∧p.w.small M
theorem smallI (M:Nat) {MI:Int} (hMI:MI=(M:Int)) {s:Bool} {A A':Option Addr} {n c n' c':Nat} (w:World) (L:Bool) (hL:decide (n≤M∧n'≤M)=L) :
 Calls Tryz.prog 18 #[.agg #[.bool s,.slice A n c,.slice A' n' c'],.int .i64 MI] w fun e w'=>e=.returned (.bool L)∧Below w.heap.size w w':=by
 subst hMI;exact small_m M w L hL
theorem fair13 {A:Option Addr} {n c:Nat} {L:List HV} (hL:SV w A (hvs L)) (hn:L.length=n) (hm:n≤maxLen) (R:Bool) (hR0:R=true ↔ (∀ p ∈ L,p.small 4)∧n≤6) :
 Calls Tryz.prog 17 #[.slice A n c] w fun e w'=>e=.returned (.bool R)∧Below w.heap.size w w':=by
 unfold maxLen at hm
 have HN:=Lib.hid hn;have HL0:=Lib.hid hL;have HR0:=Lib.hid hR0
 have H4:Hid ((4:Int)=((4:Nat):Int)):=rfl
 clear hR0 hL hn
 go_enter Tryz.func17,Tryz.ntmps17
 go_wp2_with fail
 go_loopg [3] n (fun gk ix wr=>∃ (m:Nat),Hid (gk+m=n)∧ix=.int .i64 (m:Int)∧Hid (∀ (i:Nat) (p:HV),i < m→L[i]?=some p→p.small 4)∧Below w.heap.size w wr)
 case atStart=>exact ⟨0,Nat.add_zero _,rfl,fun i p hi=>absurd hi (by omega),Below.refl _ _⟩
 case round =>
  obtain ⟨m,HG,rfl,HS,hb⟩:=hrel
  by_cases hmn:m < n
  · have HMN:=Lib.hid hmn
    obtain ⟨P,hP1⟩:∃ P,L[m]?=some P:=⟨_,List.getElem?_eq_getElem (by rw [HN.out];exact hmn)⟩
    obtain ⟨g0,o0,hix0,EP,_⟩:=(HL0.out.below hb).ht hP1
    have hixa:∀ w',(Instr.indexAt 37 (.slice A n c) (.int .i64 (m:Int))).run Tryz.prog w'=.ok (.pointer (some ⟨g0,o0,none⟩)) w':=fun w'=>hix0 n c w' hmn
    have hlt:(m:Int) < (n:Int):=by omega
    have hwr:IntKind.i64.wrap ((m:Int)+1)=(m:Int)+1:=IntWalk.i64_in _ (by omega)
    have HP1:=Lib.hid hP1;obtain ⟨ep0,ep1,ep2,ep3,ep4,ep5,ep6,ep7,ep8⟩:=EP.all;clear hP1 hix0 hmn
    by_cases hx:P.x.small 4
    · have Hx:Hid (decide (P.x.n≤4∧P.x.m≤4)=true):=decide_eq_true hx
      by_cases hy:P.y.small 4
      · have Hy:Hid (decide (P.y.n≤4∧P.y.m≤4)=true):=decide_eq_true hy
        by_cases hw:P.w.small 4
        · have Hw:Hid (decide (P.w.n≤4∧P.w.m≤4)=true):=decide_eq_true hw
          have HSM:Hid (P.small 4):=⟨hx,hy,hw⟩
          clear hx hy hw
          go_wp2_with (first
           | (go_at_call 18;(with_reducible refine (smallI 4 H4.out (s:=P.x.s) (A:=P.x.A) (n:=P.x.n) (c:=P.x.c) (A':=P.x.B) (n':=P.x.m) (c':=P.x.d) _ true Hx.out).mono ?_);rintro e w_z ⟨rfl,hh⟩
              (try replace EP:=EP.below hh);replace hb:=bend hb hh;obtain ⟨ep0,ep1,ep2,ep3,ep4,ep5,ep6,ep7,ep8⟩:=EP.all)
           | (go_at_call 18;(with_reducible refine (smallI 4 H4.out (s:=P.y.s) (A:=P.y.A) (n:=P.y.n) (c:=P.y.c) (A':=P.y.B) (n':=P.y.m) (c':=P.y.d) _ true Hy.out).mono ?_);rintro e w_z ⟨rfl,hh⟩
              (try replace EP:=EP.below hh);replace hb:=bend hb hh;obtain ⟨ep0,ep1,ep2,ep3,ep4,ep5,ep6,ep7,ep8⟩:=EP.all)
           | (go_at_call 18;(with_reducible refine (smallI 4 H4.out (s:=P.w.s) (A:=P.w.A) (n:=P.w.n) (c:=P.w.c) (A':=P.w.B) (n':=P.w.m) (c':=P.w.d) _ true Hw.out).mono ?_);rintro e w_z ⟨rfl,hh⟩
              (try replace EP:=EP.below hh);replace hb:=bend hb hh;obtain ⟨ep0,ep1,ep2,ep3,ep4,ep5,ep6,ep7,ep8⟩:=EP.all))
          go_roundg (gk - 1)
          case measure=>have:=HG.out;have:=HMN.out;omega
          case rel =>
           refine ⟨m+1,by have:=HG.out;have:=HMN.out;show _=_;omega,by go_num,fun i p hi h5=>?_,hb⟩
           rcases Nat.lt_or_ge i m with h | h
           · exact HS.out i p h h5
           · obtain rfl:i=m:=by omega
             rw [HP1.out] at h5;cases h5;exact HSM.out
        · have Hw:Hid (decide (P.w.n≤4∧P.w.m≤4)=false):=decide_eq_false hw
          have HF:Hid (false=R):=by
           show _=_
           cases R with
           | false=>rfl
           | true=>exact absurd (((HR0.out.1 rfl).1 _ (List.mem_of_getElem? HP1.out)).2.2) hw
          clear hx hy hw
          go_wp2_with (first
           | (go_at_call 18;(with_reducible refine (smallI 4 H4.out (s:=P.x.s) (A:=P.x.A) (n:=P.x.n) (c:=P.x.c) (A':=P.x.B) (n':=P.x.m) (c':=P.x.d) _ true Hx.out).mono ?_);rintro e w_z ⟨rfl,hh⟩
              (try replace EP:=EP.below hh);replace hb:=bend hb hh;obtain ⟨ep0,ep1,ep2,ep3,ep4,ep5,ep6,ep7,ep8⟩:=EP.all)
           | (go_at_call 18;(with_reducible refine (smallI 4 H4.out (s:=P.y.s) (A:=P.y.A) (n:=P.y.n) (c:=P.y.c) (A':=P.y.B) (n':=P.y.m) (c':=P.y.d) _ true Hy.out).mono ?_);rintro e w_z ⟨rfl,hh⟩
              (try replace EP:=EP.below hh);replace hb:=bend hb hh;obtain ⟨ep0,ep1,ep2,ep3,ep4,ep5,ep6,ep7,ep8⟩:=EP.all)
           | (go_at_call 18;(with_reducible refine (smallI 4 H4.out (s:=P.w.s) (A:=P.w.A) (n:=P.w.n) (c:=P.w.c) (A':=P.w.B) (n':=P.w.m) (c':=P.w.d) _ false Hw.out).mono ?_);rintro e w_z ⟨rfl,hh⟩
              (try replace EP:=EP.below hh);replace hb:=bend hb hh;obtain ⟨ep0,ep1,ep2,ep3,ep4,ep5,ep6,ep7,ep8⟩:=EP.all))
          (try rw [Exit.noGoto_ret])
          go_ret
          exact ⟨by rw [← HF.out];rfl,hb⟩
      · have Hy:Hid (decide (P.y.n≤4∧P.y.m≤4)=false):=decide_eq_false hy
        have HF:Hid (false=R):=by
         show _=_
         cases R with
         | false=>rfl
         | true=>exact absurd (((HR0.out.1 rfl).1 _ (List.mem_of_getElem? HP1.out)).2.1) hy
        clear hx hy
        go_wp2_with (first
         | (go_at_call 18;(with_reducible refine (smallI 4 H4.out (s:=P.x.s) (A:=P.x.A) (n:=P.x.n) (c:=P.x.c) (A':=P.x.B) (n':=P.x.m) (c':=P.x.d) _ true Hx.out).mono ?_);rintro e w_z ⟨rfl,hh⟩
            (try replace EP:=EP.below hh);replace hb:=bend hb hh;obtain ⟨ep0,ep1,ep2,ep3,ep4,ep5,ep6,ep7,ep8⟩:=EP.all)
         | (go_at_call 18;(with_reducible refine (smallI 4 H4.out (s:=P.y.s) (A:=P.y.A) (n:=P.y.n) (c:=P.y.c) (A':=P.y.B) (n':=P.y.m) (c':=P.y.d) _ false Hy.out).mono ?_);rintro e w_z ⟨rfl,hh⟩
            (try replace EP:=EP.below hh);replace hb:=bend hb hh;obtain ⟨ep0,ep1,ep2,ep3,ep4,ep5,ep6,ep7,ep8⟩:=EP.all))
        (try rw [Exit.noGoto_ret])
        go_ret
        exact ⟨by rw [← HF.out];rfl,hb⟩
    · have Hx:Hid (decide (P.x.n≤4∧P.x.m≤4)=false):=decide_eq_false hx
      have HF:Hid (false=R):=by
       show _=_
       cases R with
       | false=>rfl
       | true=>exact absurd (((HR0.out.1 rfl).1 _ (List.mem_of_getElem? HP1.out)).1) hx
      clear hx
      go_wp2_with (first
       | (go_at_call 18;(with_reducible refine (smallI 4 H4.out (s:=P.x.s) (A:=P.x.A) (n:=P.x.n) (c:=P.x.c) (A':=P.x.B) (n':=P.x.m) (c':=P.x.d) _ false Hx.out).mono ?_);rintro e w_z ⟨rfl,hh⟩
          (try replace EP:=EP.below hh);replace hb:=bend hb hh;obtain ⟨ep0,ep1,ep2,ep3,ep4,ep5,ep6,ep7,ep8⟩:=EP.all))
      (try rw [Exit.noGoto_ret])
      go_ret
      exact ⟨by rw [← HF.out];rfl,hb⟩
  · have hlt:¬ (m:Int) < (n:Int):=by omega
    have HT:Hid (decide ((n:Int)≤6)=R):=by
     have ha:∀ p ∈ L,p.small 4:=fun p hp=>by
      obtain ⟨i,hi⟩:=List.getElem?_of_mem hp
      have h7:=(List.getElem?_eq_some_iff.1 hi).1
      rw [HN.out] at h7
      exact HS.out i p (by omega) hi
     show _=_
     cases R with
     | true=>exact decide_eq_true (by have:=(HR0.out.1 rfl).2;omega)
     | false=>exact decide_eq_false fun h6=>by have:=HR0.out.2 ⟨ha,by omega⟩;cases this
    clear hmn
    go_wp2_with fail
    (try rw [Exit.noGoto_ret])
    go_ret
    exact ⟨by rw [← HT.out];rfl,hb⟩
end
end Go.Proofs.YtananlhdmekmjaaGreat
