/- HalveWeights: part 13. -/
import Derived.Lib.SmallJoins
import Derived.OpenShut
import Derived.Test.YtfpaeophfcoohaaGreatKHalveWeights0
import Derived.Test.YtfpaeophfcoohaaGreatKHalveWeights9
import Derived.Test.YtfpaeophfcoohaaGreatKHalveWeights11
import Derived.Test.YtfpaeophfcoohaaGreatKHalveWeights12
set_option linter.unusedVariables false
set_option maxRecDepth 100000
set_option maxHeartbeats 16000000
variable {w:Go.World}
namespace Go.Proofs.YtfpaeophfcoohaaGreat
section
open Go Go.RowKit
attribute [local go_sem ↓] open_LVH open_STH open_LVJ open_STJ
def BQv (w:World) (g:Nat) (q:QV):Prop:=B3 w g (.bool q.s) (.slice q.A q.n q.c) (.slice q.B q.m q.d)
def QRv (w:World) (q:QV) (v:Rat):Prop:=QR w q.s q.A q.n q.c q.B q.m q.d v 4
section
variable {w w':World} {g k:Nat} {q:QV} {v:Rat}
theorem BQv.b3 (h:BQv w g q):B3 w g (.bool q.s) (.slice q.A q.n q.c) (.slice q.B q.m q.d):=h
theorem BQv.below (h:BQv w g q) (hb:Below w.heap.size w w'):BQv w' g q:=B3.below h hb
theorem BQv.rest (h:BQv w g q) (hne:g ≠ k) (ho:Only k w w'):BQv w' g q:=B3.restm h hne ho
theorem BQv.lt (h:BQv w g q):g < w.heap.size:=B3.lt h
theorem QRv.qr (h:QRv w q v):QR w q.s q.A q.n q.c q.B q.m q.d v 4:=h
theorem QRv.below (h:QRv w q v) (hb:Below w.heap.size w w'):QRv w' q v:=QR.below h hb
end
theorem BQv.box {g:Nat} {q:QV} (h:BQv w g q):BoxAt 26 w g #[.bool q.s,.slice q.A q.n q.c,.slice q.B q.m q.d]:=⟨h,fun x k v e=>by
 match x,e with
 | 0,e=>cases e
 | 1,e=>cases e
 | 2,e=>cases e
 | x+3,e=>cases e⟩
theorem QRv.on {w w':World} {g:Nat} {p q:QV} {v:Rat} (h:QRv w q v) (Z:BQv w g p) (ho:Only g w w'):QRv w' q v:=QR.box h Z.box ho
theorem wcmp_lt {x y:Rat} (h:x < y):cmpQ x y=-1:=by unfold cmpQ;rw [if_pos h]
theorem wcmp_gt {x y:Rat} (h:y < x):cmpQ x y=1:=by unfold cmpQ;rw [if_neg (Rat.not_lt.2 (Rat.le_of_lt h)),if_pos h]
theorem wcmp_nlt {x y:Rat} (h:¬ x < y):¬ cmpQ x y < 0:=by
 unfold cmpQ;rw [if_neg h]
 split <;> decide
theorem wcmp_ngt {x y:Rat} (h:¬ y < x):¬ 0 < cmpQ x y:=by
 unfold cmpQ
 by_cases q:x < y
 · rw [if_pos q];decide
 · rw [if_neg q,if_neg h];decide
theorem hwts_f {A:Option Addr} {n c:Nat} {L:List HV} (hL:SV w A (hvs L)) (hn:L.length=n) (hm:n≤maxLen) (hf:¬ ((∀ p ∈ L,p.small 4)∧n≤6)) :
 Calls Tryz.prog 6 #[.slice A n c] w fun e w'=>e=.returned (.bool true)∧Below w.heap.size w w':=by
 have HF:=Lib.hid hf;clear hf
 have hb:Below w.heap.size w w:=Below.refl _ _
 have HN:=Lib.hid hn;clear hn
 go_enter Tryz.func6,Tryz.ntmps6
 go_wp2_with (first
  | (go_at_call 17;(with_reducible refine (fair13_f hL HN.out hm HF.out).mono ?_);rintro e w_z ⟨rfl,hh⟩
     replace hb:=bend hb hh)
  | (go_at_call 18;(with_reducible refine (wakes14_any _).mono ?_);rintro e w_z ⟨rfl,hh⟩
     replace hb:=bend hb hh))
 (try rw [Exit.noGoto_ret])
 go_ret;exact ⟨rfl,hb⟩
theorem hwts_g {A:Option Addr} {n c:Nat} {L:List HV} {V:List AH} (hL:SV w A (hvs L)) (hn:L.length=n) (hE:EachH HR w L V 4) (hs:(∀ p ∈ L,p.small 4)∧n≤6) (hg:¬ GoodH V) :
 Calls Tryz.prog 6 #[.slice A n c] w fun e w'=>e=.returned (.bool true)∧Below w.heap.size w w':=by
 have HG:=Lib.hid hg;clear hg;have HF:=Lib.hid hs
 have hm:n≤maxLen:=by unfold maxLen;omega
 have hn9:n≤1000:=by omega
 have HVn:Hid (V.length=n):=hE.1.symm.trans hn
 clear hs
 have hb:Below w.heap.size w w:=Below.refl _ _
 have HN:=Lib.hid hn;clear hn
 go_enter Tryz.func6,Tryz.ntmps6
 go_wp2_with (first
  | (go_at_call 17;(with_reducible refine (fair13_t hL HN.out hm HF.out).mono ?_);rintro e w_z ⟨rfl,hh⟩
     (try replace hL:=hL.below hh);replace hb:=bend hb hh;replace hE:=EachH.belowR hE hh)
  | (go_at_call 19;(with_reducible refine (rins13 hL hE HN.out hn9 (by decide) (by decide)).mono ?_);rintro e w_i ⟨v1,M1,rfl,l1,e1,hh⟩
     (try replace hL:=hL.below hh);replace hb:=bend hb hh;replace hE:=EachH.belowR hE hh
     obtain ⟨A_x,c_x,rfl,_,_⟩:=l1.form
     have hM1:M1.length=n:=e1.1.trans HVn.out
     rw [hM1] at l1 ⊢
     have LM1:=l1.sv)
  | (go_at_call 22;(with_reducible refine (rgood13_f LM1 e1 hM1 hn9 HG.out).mono ?_);rintro e w_z ⟨rfl,hh⟩
     (try replace hL:=hL.below hh);replace hb:=bend hb hh;replace hE:=EachH.belowR hE hh;clear e1 l1 LM1)
  | (go_at_call 18;(with_reducible refine (wakes14_any _).mono ?_);rintro e w_z ⟨rfl,hh⟩
     replace hb:=bend hb hh))
 (try rw [Exit.noGoto_ret])
 go_ret;exact ⟨rfl,hb⟩
theorem hwts_p {A:Option Addr} {n c:Nat} {L:List HV} {V:List AH} (hL:SV w A (hvs L)) (hn:L.length=n) (hE:EachH HR w L V 4) (hs:(∀ p ∈ L,p.small 4)∧n≤6) (hg:GoodH V) :
 Calls Tryz.prog 6 #[.slice A n c] w fun e w'=>e=.returned (.bool true)∧Below w.heap.size w w':=by
 have HG:=Lib.hid hg
 have hn24:2≤n∧n≤4:=by have:=hg.1;rw [← hE.1,hn] at this;exact this
 clear hg;have HF:=Lib.hid hs
 have hm:n≤maxLen:=by unfold maxLen;omega
 have hn9:n≤1000:=by omega
 have HVn:Hid (V.length=n):=hE.1.symm.trans hn
 clear hs
 have hb:Below w.heap.size w w:=Below.refl _ _
 have HN:=Lib.hid hn;clear hn
 go_enter Tryz.func6,Tryz.ntmps6
 go_upto_region 3 with (first
  | (go_at_call 17;(with_reducible refine (fair13_t hL HN.out hm HF.out).mono ?_);rintro e w_z ⟨rfl,hh⟩
     (try replace hL:=hL.below hh);replace hb:=bend hb hh;replace hE:=EachH.belowR hE hh)
  | (go_at_call 19;(with_reducible refine (rins13 hL hE HN.out hn9 (by decide) (by decide)).mono ?_);rintro e w_i ⟨v1,M1,rfl,l1,e1,hh⟩
     (try replace hL:=hL.below hh);replace hb:=bend hb hh;replace hE:=EachH.belowR hE hh
     obtain ⟨A_x,c_x,rfl,_,_⟩:=l1.form
     have hM1:M1.length=n:=e1.1.trans HVn.out
     rw [hM1] at l1 ⊢
     have LM1:=l1.sv)
  | (go_at_call 22;(with_reducible refine (rgood13_t LM1 e1 hM1 hn9 HG.out).mono ?_);rintro e w_z ⟨rfl,hh⟩
     (try replace hL:=hL.below hh);replace hb:=bend hb hh;replace hE:=EachH.belowR hE hh;clear e1 l1 LM1))
 obtain ⟨P0,y0,hP0,hy0,p0⟩:=hE.at_ (i:=0) (by rw [HN.out];omega)
 obtain ⟨g0,o0,hix0,E0,_⟩:=hL.ht hP0
 have hixa:∀ w',(Instr.indexAt 37 (.slice A n c) (.int .i64 0)).run Tryz.prog w'=.ok (.pointer (some ⟨g0,o0,none⟩)) w':=fun w'=>hix0 n c w' (by omega)
 clear hP0 hy0 hix0;have E0z:=E0;have p0z:=p0
 have S9:Hid (SV w_z A (hvs L)∧EachH HR w_z L V 4∧Below w.heap.size w w_z):=⟨hL,hE,hb⟩
 replace hL:=hL.below (Below.refl _ _).drew
 replace hE:=EachH.belowR hE (Below.refl _ _).drew
 replace E0:=E0.below (Below.refl _ _).drew
 replace p0:=p0.below (Below.refl _ _).drew
 replace hb:=hb.drew
 have hal1:∀ o:Obj,Below w_z.heap.size w_z (w_z.alloc o).drew:=fun o=>((Below.refl _ _).alloc (Nat.le_refl _) _).drew
 have hal2:∀ o p:Obj,Below w_z.heap.size w_z ((w_z.alloc o).alloc p).drew:=fun o p=>(((Below.refl _ _).alloc (Nat.le_refl _) _).alloc (by simp) _).drew
 go_region_held3 (fun w'=>w'.cell? ⟨g0,o0+6,none⟩=some (.bool P0.w.s)∧w'.cell? ⟨g0,o0+7,none⟩=some (.slice P0.w.A P0.w.n P0.w.c)∧w'.cell? ⟨g0,o0+8,none⟩=some (.slice P0.w.B P0.w.m P0.w.d))
  (first | with_reducible exact ⟨E0.c6,E0.c7,E0.c8⟩ | exact ⟨(E0z.below (hal1 _)).c6,(E0z.below (hal1 _)).c7,(E0z.below (hal1 _)).c8⟩ | exact ⟨(E0z.below (hal2 _ _)).c6,(E0z.below (hal2 _ _)).c7,(E0z.below (hal2 _ _)).c8⟩)
  (fail)
 focus
  have hBz:Below w_z.heap.size w_z ((w_z.alloc (Obj.cells #[Value.bool P0.w.s,Value.slice P0.w.A P0.w.n P0.w.c,Value.slice P0.w.B P0.w.m P0.w.d] 26)).alloc (Obj.cells #[Value.bool P0.w.s,Value.slice P0.w.A P0.w.n P0.w.c,Value.slice P0.w.B P0.w.m P0.w.d] 26)).drew:=hal2 _ _
  have XA:BQv ((w_z.alloc (Obj.cells #[Value.bool P0.w.s,Value.slice P0.w.A P0.w.n P0.w.c,Value.slice P0.w.B P0.w.m P0.w.d] 26)).alloc (Obj.cells #[Value.bool P0.w.s,Value.slice P0.w.A P0.w.n P0.w.c,Value.slice P0.w.B P0.w.m P0.w.d] 26)).drew (w_z.heap.size) (⟨P0.w.s,P0.w.A,P0.w.n,P0.w.c,P0.w.B,P0.w.m,P0.w.d⟩:QV):=(B3.new' _ _ _ _ _ rfl).alloc _
  have XB:BQv ((w_z.alloc (Obj.cells #[Value.bool P0.w.s,Value.slice P0.w.A P0.w.n P0.w.c,Value.slice P0.w.B P0.w.m P0.w.d] 26)).alloc (Obj.cells #[Value.bool P0.w.s,Value.slice P0.w.A P0.w.n P0.w.c,Value.slice P0.w.B P0.w.m P0.w.d] 26)).drew (w_z.heap.size+1) (⟨P0.w.s,P0.w.A,P0.w.n,P0.w.c,P0.w.B,P0.w.m,P0.w.d⟩:QV):=B3.new' _ _ _ _ _ (by simp)
  have la:QRv ((w_z.alloc (Obj.cells #[Value.bool P0.w.s,Value.slice P0.w.A P0.w.n P0.w.c,Value.slice P0.w.B P0.w.m P0.w.d] 26)).alloc (Obj.cells #[Value.bool P0.w.s,Value.slice P0.w.A P0.w.n P0.w.c,Value.slice P0.w.B P0.w.m P0.w.d] 26)).drew (⟨P0.w.s,P0.w.A,P0.w.n,P0.w.c,P0.w.B,P0.w.m,P0.w.d⟩:QV) y0.w:=QRv.below (q:=(⟨P0.w.s,P0.w.A,P0.w.n,P0.w.c,P0.w.B,P0.w.m,P0.w.d⟩:QV)) p0z.qw hBz
  clear hL hE E0 p0 hb hal1 hal2 E0z p0z hixa
  generalize ((w_z.alloc (Obj.cells #[Value.bool P0.w.s,Value.slice P0.w.A P0.w.n P0.w.c,Value.slice P0.w.B P0.w.m P0.w.d] 26)).alloc (Obj.cells #[Value.bool P0.w.s,Value.slice P0.w.A P0.w.n P0.w.c,Value.slice P0.w.B P0.w.m P0.w.d] 26)).drew=W0 at *
  generalize hgM:w_z.heap.size+1=gM at XA XB ⊢
  generalize hgL:w_z.heap.size=gL at XA XB ⊢
  have HSZ:Hid (w_z.heap.size≤gL∧w_z.heap.size≤gM∧gL ≠ gM):=⟨by omega,by omega,by omega⟩
  clear hgM hgL
 rotate_left
 focus
  have hBz:Below w_z.heap.size w_z ((w_z.alloc (Obj.cells #[Value.bool P0.w.s,Value.slice P0.w.A P0.w.n P0.w.c,Value.slice P0.w.B P0.w.m P0.w.d] 26)).alloc (Obj.cells #[Value.bool P0.w.s,Value.slice P0.w.A P0.w.n P0.w.c,Value.slice P0.w.B P0.w.m P0.w.d] 26)).drew:=hal2 _ _
  have XB:BQv ((w_z.alloc (Obj.cells #[Value.bool P0.w.s,Value.slice P0.w.A P0.w.n P0.w.c,Value.slice P0.w.B P0.w.m P0.w.d] 26)).alloc (Obj.cells #[Value.bool P0.w.s,Value.slice P0.w.A P0.w.n P0.w.c,Value.slice P0.w.B P0.w.m P0.w.d] 26)).drew (w_z.heap.size) (⟨P0.w.s,P0.w.A,P0.w.n,P0.w.c,P0.w.B,P0.w.m,P0.w.d⟩:QV):=(B3.new' _ _ _ _ _ rfl).alloc _
  have XA:BQv ((w_z.alloc (Obj.cells #[Value.bool P0.w.s,Value.slice P0.w.A P0.w.n P0.w.c,Value.slice P0.w.B P0.w.m P0.w.d] 26)).alloc (Obj.cells #[Value.bool P0.w.s,Value.slice P0.w.A P0.w.n P0.w.c,Value.slice P0.w.B P0.w.m P0.w.d] 26)).drew (w_z.heap.size+1) (⟨P0.w.s,P0.w.A,P0.w.n,P0.w.c,P0.w.B,P0.w.m,P0.w.d⟩:QV):=B3.new' _ _ _ _ _ (by simp)
  have la:QRv ((w_z.alloc (Obj.cells #[Value.bool P0.w.s,Value.slice P0.w.A P0.w.n P0.w.c,Value.slice P0.w.B P0.w.m P0.w.d] 26)).alloc (Obj.cells #[Value.bool P0.w.s,Value.slice P0.w.A P0.w.n P0.w.c,Value.slice P0.w.B P0.w.m P0.w.d] 26)).drew (⟨P0.w.s,P0.w.A,P0.w.n,P0.w.c,P0.w.B,P0.w.m,P0.w.d⟩:QV) y0.w:=QRv.below (q:=(⟨P0.w.s,P0.w.A,P0.w.n,P0.w.c,P0.w.B,P0.w.m,P0.w.d⟩:QV)) p0z.qw hBz
  clear hL hE E0 p0 hb hal1 hal2 E0z p0z hixa
  generalize ((w_z.alloc (Obj.cells #[Value.bool P0.w.s,Value.slice P0.w.A P0.w.n P0.w.c,Value.slice P0.w.B P0.w.m P0.w.d] 26)).alloc (Obj.cells #[Value.bool P0.w.s,Value.slice P0.w.A P0.w.n P0.w.c,Value.slice P0.w.B P0.w.m P0.w.d] 26)).drew=W0 at *
  generalize hgM:w_z.heap.size+1=gL at XA XB ⊢
  generalize hgL:w_z.heap.size=gM at XA XB ⊢
  have HSZ:Hid (w_z.heap.size≤gL∧w_z.heap.size≤gM∧gL ≠ gM):=⟨by omega,by omega,by omega⟩
  clear hgM hgL
 all_goals
  have HXX:Hid (BQv W0 gL (⟨P0.w.s,P0.w.A,P0.w.n,P0.w.c,P0.w.B,P0.w.m,P0.w.d⟩:QV)∧BQv W0 gM (⟨P0.w.s,P0.w.A,P0.w.n,P0.w.c,P0.w.B,P0.w.m,P0.w.d⟩:QV)):=⟨XA,XB⟩
  have HQQ:Hid (QRv W0 (⟨P0.w.s,P0.w.A,P0.w.n,P0.w.c,P0.w.B,P0.w.m,P0.w.d⟩:QV) y0.w∧QRv W0 (⟨P0.w.s,P0.w.A,P0.w.n,P0.w.c,P0.w.B,P0.w.m,P0.w.d⟩:QV) y0.w):=⟨la,la⟩
  clear XA XB la
  go_wp2_with fail
  go_loopg [5] n (fun gk ix wr=>∃ (m:Nat) (qa qb:QV) (va vb:Rat),Hid (gk+m=n)∧ix=.int .i64 (m:Int)∧Hid (BQv wr gL qa∧BQv wr gM qb)∧Hid (QRv wr qa va∧QRv wr qb vb)∧Hid (∀ (i:Nat) (u:AH),i < m→V[i]?=some u→va≤u.w∧u.w≤vb)∧Below w_z.heap.size w_z wr)
  case atStart=>exact ⟨0,_,_,_,_,Nat.add_zero _,rfl,HXX,HQQ,fun i u hi=>absurd hi (by omega),hBz⟩
  case round =>
   obtain ⟨m,qa,qb,va,vb,HGK,rfl,HX,HQ,HS,hB⟩:=hrel
   by_cases hmn:m < n
   · have HMN:=Lib.hid hmn
     obtain ⟨P,u,hP1,hu1,p0⟩:=S9.out.2.1.at_ (i:=m) (by rw [HN.out];exact hmn)
     obtain ⟨g1,o1,hix1,EP0,_⟩:=S9.out.1.ht hP1
     have hixa:∀ w',(Instr.indexAt 37 (.slice A n c) (.int .i64 (m:Int))).run Tryz.prog w'=.ok (.pointer (some ⟨g1,o1,none⟩)) w':=fun w'=>hix1 n c w' hmn
     have hlt:(m:Int) < (n:Int):=by omega
     have hwr:IntKind.i64.wrap ((m:Int)+1)=(m:Int)+1:=IntWalk.i64_in _ (by omega)
     have HU:=Lib.hid hu1;have HP:=Lib.hid p0;have HE:=Lib.hid EP0;clear hP1 hu1 hix1 hmn p0 EP0;have XA:=HX.out.1;have XB:=HX.out.2;have la:=HQ.out.1;have lb:=HQ.out.2;clear HX HQ
     by_cases h1:u.w < va
     focus
      have HT1:Hid (cmpQ u.w va=-1):=wcmp_lt h1
      go_upto_region 7 with (fail)
      have EP:=HE.out.below hB
      have pw:=(HP.out.below hB).qw
      replace XA:=XA.below (Below.refl _ _).drew
      replace XB:=XB.below (Below.refl _ _).drew
      replace la:=la.below (Below.refl _ _).drew
      replace lb:=lb.below (Below.refl _ _).drew
      replace EP:=EP.below (Below.refl _ _).drew
      replace pw:=pw.below (Below.refl _ _).drew
      replace hB:=hB.drew
      refine wp_region_held_drew (S:=(fun w'=>w'.cell? ⟨g1,o1+6,none⟩=some (.bool P.w.s)∧w'.cell? ⟨g1,o1+7,none⟩=some (.slice P.w.A P.w.n P.w.c)∧w'.cell? ⟨g1,o1+8,none⟩=some (.slice P.w.B P.w.m P.w.d)∧w'.cell? ⟨gL,0,none⟩=some (.bool qa.s)∧w'.cell? ⟨gL,1,none⟩=some (.slice qa.A qa.n qa.c)∧w'.cell? ⟨gL,2,none⟩=some (.slice qa.B qa.m qa.d))) (by kernel_rfl) (by with_reducible exact ⟨EP.c6,EP.c7,EP.c8,XA.b3.c0,XA.b3.c1,XA.b3.c2⟩) (fun hHeld=>?_)
      refine wpAnyH_take (i:=0) (oi:=⟨some 34,.move (.tmp 0),37, "law.go:91",#[],none⟩) (v:=?_) rfl (by kernel_rfl) (by kernel_rfl) (by kernel_rfl) (fun _ _ _ h=>h) (Or.inl ⟨by rfl,?_⟩) hHeld ?_
      rotate_left
      · (intro w hSw;(try dsimp only at hSw);go_simp;try with_reducible rfl)
      simp only [Act.put,List.setIfInBounds_toArray,List.set_cons_zero,List.set_cons_succ]
      refine wpAnyH_take (i:=1) (oi:=⟨some 35,.move (.tmp 5),3, "law.go:91",#[],none⟩) (v:=?_) rfl (by kernel_rfl) (by kernel_rfl) (by kernel_rfl) (fun _ _ _ h=>h) (Or.inl ⟨by rfl,?_⟩) hHeld ?_
      rotate_left
      · (intro w hSw;(try dsimp only at hSw);go_simp;try with_reducible rfl)
      simp only [Act.put,List.setIfInBounds_toArray,List.set_cons_zero,List.set_cons_succ]
      refine wpAnyH_take (i:=2) (oi:=⟨some 36,.indexAddr 37 (.tmp 34) (.tmp 35),0, "law.go:91",#[⟨0,.data⟩,⟨1,.data⟩],none⟩) (v:=?_) rfl (by kernel_rfl) (by kernel_rfl) (by kernel_rfl) (fun _ _ _ h=>h) (Or.inl ⟨by rfl,?_⟩) hHeld ?_
      rotate_left
      · (intro w hSw;(try dsimp only at hSw);go_simp;try with_reducible rfl)
      simp only [Act.put,List.setIfInBounds_toArray,List.set_cons_zero,List.set_cons_succ]
      refine wpAnyH_take (i:=3) (oi:=⟨some 37,.fieldAddr 79 (.tmp 36) 2,0, "law.go:91",#[⟨2,.data⟩],none⟩) (v:=?_) rfl (by kernel_rfl) (by kernel_rfl) (by kernel_rfl) (fun _ _ _ h=>h) (Or.inl ⟨by rfl,?_⟩) hHeld ?_
      rotate_left
      · (intro w hSw;(try dsimp only at hSw);go_simp;try with_reducible rfl)
      simp only [Act.put,List.setIfInBounds_toArray,List.set_cons_zero,List.set_cons_succ]
      refine wpAnyH_take (i:=4) (oi:=⟨some 38,.load 26 (.tmp 37),26, "law.go:91",#[⟨3,.data⟩],none⟩) (v:=?_) rfl (by kernel_rfl) (by kernel_rfl) (by kernel_rfl) (fun _ _ _ h=>h) (Or.inl ⟨by rfl,?_⟩) hHeld ?_
      rotate_left
      · (intro w hSw;(try dsimp only at hSw);go_simp;try with_reducible rfl)
      simp only [Act.put,List.setIfInBounds_toArray,List.set_cons_zero,List.set_cons_succ]
      refine wpAnyH_take (i:=5) (oi:=⟨some 39,.load 26 (.tmp 3),26, "law.go:91",#[],none⟩) (v:=?_) rfl (by kernel_rfl) (by kernel_rfl) (by kernel_rfl) (fun _ _ _ h=>h) (Or.inl ⟨by rfl,?_⟩) hHeld ?_
      rotate_left
      · (intro w hSw;(try dsimp only at hSw);go_simp;try with_reducible rfl)
      simp only [Act.put,List.setIfInBounds_toArray,List.set_cons_zero,List.set_cons_succ]
      refine wpAnyH_ready (rs:=[6]) (by kernel_rfl) (by simp) ?_
      refine AllReadyH.cons (o:=⟨some 40,.call ⟨.value (.func 28),#[.tmp 38,.tmp 39],#[26,26]⟩,3, "law.go:91",#[⟨4,.data⟩,⟨5,.data⟩],none⟩) rfl (fun K1 hK1=>?_) AllReadyH.nil
      go_simp
      first
      | (go_at_call 28;(with_reducible refine (rcmp_q pw la.qr (by decide) (by decide) (.inl (by decide)) (by decide) (by decide)).mono ?_);rintro e w_y ⟨rfl,hh⟩;rw [HT1.out]
         replace XA:=XA.below hh;replace XB:=XB.below hh;replace la:=la.below hh;replace lb:=lb.below hh;replace EP:=EP.below hh;replace pw:=pw.below hh;replace hB:=bend hB hh)
      refine hK1.out _ _ (by with_reducible exact ⟨EP.c6,EP.c7,EP.c8,XA.b3.c0,XA.b3.c1,XA.b3.c2⟩) (fun hHeld=>?_)
      clear hK1 K1
      refine wpAnyH_take (i:=7) (oi:=⟨some 41,.binOp BinOp.lss 3 (.tmp 40) (.const (Value.int IntKind.i64 0)) 3,4, "law.go:91",#[⟨6,.data⟩],none⟩) (v:=?_) rfl (by kernel_rfl) (by kernel_rfl) (by kernel_rfl) (fun _ _ _ h=>h) (Or.inl ⟨by rfl,?_⟩) hHeld ?_
      rotate_left
      · (intro w hSw;(try dsimp only at hSw);go_simp;try with_reducible rfl)
      simp only [Act.put,List.setIfInBounds_toArray,List.set_cons_zero,List.set_cons_succ]
      refine wpAnyH_done (by kernel_rfl) ?_ _
      clear hHeld HT1;have e6:=EP.c6;have e7:=EP.c7;have e8:=EP.c8;have xf0:=XA.b3.f0;have xc0:=XA.b3.c0;have xf1:=XA.b3.f1;have xc1:=XA.b3.c1;have xf2:=XA.b3.f2;have xc2:=XA.b3.c2
      go_upto_region 9 with (fail)
      generalize hW:(((w_y.setCell ⟨gL,0,none⟩ (.bool P.w.s)).setCell ⟨gL,1,none⟩ (.slice P.w.A P.w.n P.w.c)).setCell ⟨gL,2,none⟩ (.slice P.w.B P.w.m P.w.d))=Wn
      have ho:Only gL w_y Wn:=by subst hW;exact only_set3 _ _ _ _ _
      have X2:BQv Wn gL (⟨P.w.s,P.w.A,P.w.n,P.w.c,P.w.B,P.w.m,P.w.d⟩:QV):=by subst hW;exact XA.b3.set3 _ _ _
      have l2:QRv Wn (⟨P.w.s,P.w.A,P.w.n,P.w.c,P.w.B,P.w.m,P.w.d⟩:QV) u.w:=QRv.on (q:=(⟨P.w.s,P.w.A,P.w.n,P.w.c,P.w.B,P.w.m,P.w.d⟩:QV)) pw XA ho
      have o2:=lb.on XA ho
      have Y2:=XB.rest (show gM ≠ gL by have:=HSZ.out;omega) ho
      have hB2:=Below.only hB (show w_z.heap.size≤gL by have:=HSZ.out;omega) hB.size ho
      have PK:∃ (qz:QV) (vz:Rat),BQv Wn gL qz∧QRv Wn qz vz∧Hid (vz≤va∧vz≤u.w):=⟨(⟨P.w.s,P.w.A,P.w.n,P.w.c,P.w.B,P.w.m,P.w.d⟩:QV),u.w,X2,l2,Rat.le_of_lt h1,Rat.le_refl⟩
      clear hW ho XA XB la lb EP pw hB X2 l2 h1 e6 e7 e8 xf0 xf1 xf2 xc0 xc1 xc2;have XB:=Y2;have lb:=o2;have hB:=hB2;clear Y2 o2 hB2
     rotate_left
     focus
      obtain ⟨T,hT,hT0⟩:∃ T,cmpQ u.w va=T∧¬ T < 0:=⟨_,rfl,wcmp_nlt h1⟩
      have HT1:=Lib.hid hT
      have HD1:Hid (decide (T < 0)=false):=decide_eq_false hT0
      clear hT hT0
      go_upto_region 7 with (fail)
      have EP:=HE.out.below hB
      have pw:=(HP.out.below hB).qw
      replace XA:=XA.below (Below.refl _ _).drew
      replace XB:=XB.below (Below.refl _ _).drew
      replace la:=la.below (Below.refl _ _).drew
      replace lb:=lb.below (Below.refl _ _).drew
      replace EP:=EP.below (Below.refl _ _).drew
      replace pw:=pw.below (Below.refl _ _).drew
      replace hB:=hB.drew
      refine wp_region_held_drew (S:=(fun w'=>w'.cell? ⟨g1,o1+6,none⟩=some (.bool P.w.s)∧w'.cell? ⟨g1,o1+7,none⟩=some (.slice P.w.A P.w.n P.w.c)∧w'.cell? ⟨g1,o1+8,none⟩=some (.slice P.w.B P.w.m P.w.d)∧w'.cell? ⟨gL,0,none⟩=some (.bool qa.s)∧w'.cell? ⟨gL,1,none⟩=some (.slice qa.A qa.n qa.c)∧w'.cell? ⟨gL,2,none⟩=some (.slice qa.B qa.m qa.d))) (by kernel_rfl) (by with_reducible exact ⟨EP.c6,EP.c7,EP.c8,XA.b3.c0,XA.b3.c1,XA.b3.c2⟩) (fun hHeld=>?_)
      refine wpAnyH_take (i:=0) (oi:=⟨some 34,.move (.tmp 0),37, "law.go:91",#[],none⟩) (v:=?_) rfl (by kernel_rfl) (by kernel_rfl) (by kernel_rfl) (fun _ _ _ h=>h) (Or.inl ⟨by rfl,?_⟩) hHeld ?_
      rotate_left
      · (intro w hSw;(try dsimp only at hSw);go_simp;try with_reducible rfl)
      simp only [Act.put,List.setIfInBounds_toArray,List.set_cons_zero,List.set_cons_succ]
      refine wpAnyH_take (i:=1) (oi:=⟨some 35,.move (.tmp 5),3, "law.go:91",#[],none⟩) (v:=?_) rfl (by kernel_rfl) (by kernel_rfl) (by kernel_rfl) (fun _ _ _ h=>h) (Or.inl ⟨by rfl,?_⟩) hHeld ?_
      rotate_left
      · (intro w hSw;(try dsimp only at hSw);go_simp;try with_reducible rfl)
      simp only [Act.put,List.setIfInBounds_toArray,List.set_cons_zero,List.set_cons_succ]
      refine wpAnyH_take (i:=2) (oi:=⟨some 36,.indexAddr 37 (.tmp 34) (.tmp 35),0, "law.go:91",#[⟨0,.data⟩,⟨1,.data⟩],none⟩) (v:=?_) rfl (by kernel_rfl) (by kernel_rfl) (by kernel_rfl) (fun _ _ _ h=>h) (Or.inl ⟨by rfl,?_⟩) hHeld ?_
      rotate_left
      · (intro w hSw;(try dsimp only at hSw);go_simp;try with_reducible rfl)
      simp only [Act.put,List.setIfInBounds_toArray,List.set_cons_zero,List.set_cons_succ]
      refine wpAnyH_take (i:=3) (oi:=⟨some 37,.fieldAddr 79 (.tmp 36) 2,0, "law.go:91",#[⟨2,.data⟩],none⟩) (v:=?_) rfl (by kernel_rfl) (by kernel_rfl) (by kernel_rfl) (fun _ _ _ h=>h) (Or.inl ⟨by rfl,?_⟩) hHeld ?_
      rotate_left
      · (intro w hSw;(try dsimp only at hSw);go_simp;try with_reducible rfl)
      simp only [Act.put,List.setIfInBounds_toArray,List.set_cons_zero,List.set_cons_succ]
      refine wpAnyH_take (i:=4) (oi:=⟨some 38,.load 26 (.tmp 37),26, "law.go:91",#[⟨3,.data⟩],none⟩) (v:=?_) rfl (by kernel_rfl) (by kernel_rfl) (by kernel_rfl) (fun _ _ _ h=>h) (Or.inl ⟨by rfl,?_⟩) hHeld ?_
      rotate_left
      · (intro w hSw;(try dsimp only at hSw);go_simp;try with_reducible rfl)
      simp only [Act.put,List.setIfInBounds_toArray,List.set_cons_zero,List.set_cons_succ]
      refine wpAnyH_take (i:=5) (oi:=⟨some 39,.load 26 (.tmp 3),26, "law.go:91",#[],none⟩) (v:=?_) rfl (by kernel_rfl) (by kernel_rfl) (by kernel_rfl) (fun _ _ _ h=>h) (Or.inl ⟨by rfl,?_⟩) hHeld ?_
      rotate_left
      · (intro w hSw;(try dsimp only at hSw);go_simp;try with_reducible rfl)
      simp only [Act.put,List.setIfInBounds_toArray,List.set_cons_zero,List.set_cons_succ]
      refine wpAnyH_ready (rs:=[6]) (by kernel_rfl) (by simp) ?_
      refine AllReadyH.cons (o:=⟨some 40,.call ⟨.value (.func 28),#[.tmp 38,.tmp 39],#[26,26]⟩,3, "law.go:91",#[⟨4,.data⟩,⟨5,.data⟩],none⟩) rfl (fun K1 hK1=>?_) AllReadyH.nil
      go_simp
      first
      | (go_at_call 28;(with_reducible refine (rcmp_q pw la.qr (by decide) (by decide) (.inl (by decide)) (by decide) (by decide)).mono ?_);rintro e w_y ⟨rfl,hh⟩;rw [HT1.out]
         replace XA:=XA.below hh;replace XB:=XB.below hh;replace la:=la.below hh;replace lb:=lb.below hh;replace EP:=EP.below hh;replace pw:=pw.below hh;replace hB:=bend hB hh)
      refine hK1.out _ _ (by with_reducible exact ⟨EP.c6,EP.c7,EP.c8,XA.b3.c0,XA.b3.c1,XA.b3.c2⟩) (fun hHeld=>?_)
      clear hK1 K1
      refine wpAnyH_take (i:=7) (oi:=⟨some 41,.binOp BinOp.lss 3 (.tmp 40) (.const (Value.int IntKind.i64 0)) 3,4, "law.go:91",#[⟨6,.data⟩],none⟩) (v:=?_) rfl (by kernel_rfl) (by kernel_rfl) (by kernel_rfl) (fun _ _ _ h=>h) (Or.inl ⟨by rfl,?_⟩) hHeld ?_
      rotate_left
      · (intro w hSw;(try dsimp only at hSw);go_simp;try with_reducible rfl)
      simp only [Act.put,List.setIfInBounds_toArray,List.set_cons_zero,List.set_cons_succ]
      simp only [HD1.out]
      refine wpAnyH_done (by kernel_rfl) ?_ _
      clear hHeld HT1 HD1
      go_upto_region 9 with (fail)
      generalize w_y=Wn at *
      have PK:∃ (qz:QV) (vz:Rat),BQv Wn gL qz∧QRv Wn qz vz∧Hid (vz≤va∧vz≤u.w):=⟨qa,va,XA,la,Rat.le_refl,Rat.not_lt.1 h1⟩
      clear XA la h1 EP pw
     all_goals
      obtain ⟨qa2,va2,XA,la,Hla⟩:=PK
      by_cases h1:vb < u.w
      focus
       have HT1:Hid (cmpQ u.w vb=1):=wcmp_gt h1
       go_upto_region 9 with (fail)
       have EP:=HE.out.below hB
       have pw:=(HP.out.below hB).qw
       replace XA:=XA.below (Below.refl _ _).drew
       replace XB:=XB.below (Below.refl _ _).drew
       replace la:=la.below (Below.refl _ _).drew
       replace lb:=lb.below (Below.refl _ _).drew
       replace EP:=EP.below (Below.refl _ _).drew
       replace pw:=pw.below (Below.refl _ _).drew
       replace hB:=hB.drew
       refine wp_region_held_drew (S:=(fun w'=>w'.cell? ⟨g1,o1+6,none⟩=some (.bool P.w.s)∧w'.cell? ⟨g1,o1+7,none⟩=some (.slice P.w.A P.w.n P.w.c)∧w'.cell? ⟨g1,o1+8,none⟩=some (.slice P.w.B P.w.m P.w.d)∧w'.cell? ⟨gM,0,none⟩=some (.bool qb.s)∧w'.cell? ⟨gM,1,none⟩=some (.slice qb.A qb.n qb.c)∧w'.cell? ⟨gM,2,none⟩=some (.slice qb.B qb.m qb.d))) (by kernel_rfl) (by with_reducible exact ⟨EP.c6,EP.c7,EP.c8,XB.b3.c0,XB.b3.c1,XB.b3.c2⟩) (fun hHeld=>?_)
       refine wpAnyH_take (i:=0) (oi:=⟨some 47,.move (.tmp 0),37, "law.go:94",#[],none⟩) (v:=?_) rfl (by kernel_rfl) (by kernel_rfl) (by kernel_rfl) (fun _ _ _ h=>h) (Or.inl ⟨by rfl,?_⟩) hHeld ?_
       rotate_left
       · (intro w hSw;(try dsimp only at hSw);go_simp;try with_reducible rfl)
       simp only [Act.put,List.setIfInBounds_toArray,List.set_cons_zero,List.set_cons_succ]
       refine wpAnyH_take (i:=1) (oi:=⟨some 48,.move (.tmp 5),3, "law.go:94",#[],none⟩) (v:=?_) rfl (by kernel_rfl) (by kernel_rfl) (by kernel_rfl) (fun _ _ _ h=>h) (Or.inl ⟨by rfl,?_⟩) hHeld ?_
       rotate_left
       · (intro w hSw;(try dsimp only at hSw);go_simp;try with_reducible rfl)
       simp only [Act.put,List.setIfInBounds_toArray,List.set_cons_zero,List.set_cons_succ]
       refine wpAnyH_take (i:=2) (oi:=⟨some 49,.indexAddr 37 (.tmp 47) (.tmp 48),0, "law.go:94",#[⟨0,.data⟩,⟨1,.data⟩],none⟩) (v:=?_) rfl (by kernel_rfl) (by kernel_rfl) (by kernel_rfl) (fun _ _ _ h=>h) (Or.inl ⟨by rfl,?_⟩) hHeld ?_
       rotate_left
       · (intro w hSw;(try dsimp only at hSw);go_simp;try with_reducible rfl)
       simp only [Act.put,List.setIfInBounds_toArray,List.set_cons_zero,List.set_cons_succ]
       refine wpAnyH_take (i:=3) (oi:=⟨some 50,.fieldAddr 79 (.tmp 49) 2,0, "law.go:94",#[⟨2,.data⟩],none⟩) (v:=?_) rfl (by kernel_rfl) (by kernel_rfl) (by kernel_rfl) (fun _ _ _ h=>h) (Or.inl ⟨by rfl,?_⟩) hHeld ?_
       rotate_left
       · (intro w hSw;(try dsimp only at hSw);go_simp;try with_reducible rfl)
       simp only [Act.put,List.setIfInBounds_toArray,List.set_cons_zero,List.set_cons_succ]
       refine wpAnyH_take (i:=4) (oi:=⟨some 51,.load 26 (.tmp 50),26, "law.go:94",#[⟨3,.data⟩],none⟩) (v:=?_) rfl (by kernel_rfl) (by kernel_rfl) (by kernel_rfl) (fun _ _ _ h=>h) (Or.inl ⟨by rfl,?_⟩) hHeld ?_
       rotate_left
       · (intro w hSw;(try dsimp only at hSw);go_simp;try with_reducible rfl)
       simp only [Act.put,List.setIfInBounds_toArray,List.set_cons_zero,List.set_cons_succ]
       refine wpAnyH_take (i:=5) (oi:=⟨some 52,.load 26 (.tmp 4),26, "law.go:94",#[],none⟩) (v:=?_) rfl (by kernel_rfl) (by kernel_rfl) (by kernel_rfl) (fun _ _ _ h=>h) (Or.inl ⟨by rfl,?_⟩) hHeld ?_
       rotate_left
       · (intro w hSw;(try dsimp only at hSw);go_simp;try with_reducible rfl)
       simp only [Act.put,List.setIfInBounds_toArray,List.set_cons_zero,List.set_cons_succ]
       refine wpAnyH_ready (rs:=[6]) (by kernel_rfl) (by simp) ?_
       refine AllReadyH.cons (o:=⟨some 53,.call ⟨.value (.func 28),#[.tmp 51,.tmp 52],#[26,26]⟩,3, "law.go:94",#[⟨4,.data⟩,⟨5,.data⟩],none⟩) rfl (fun K1 hK1=>?_) AllReadyH.nil
       go_simp
       first
       | (go_at_call 28;(with_reducible refine (rcmp_q pw lb.qr (by decide) (by decide) (.inl (by decide)) (by decide) (by decide)).mono ?_);rintro e w_y ⟨rfl,hh⟩;rw [HT1.out]
          replace XA:=XA.below hh;replace XB:=XB.below hh;replace la:=la.below hh;replace lb:=lb.below hh;replace EP:=EP.below hh;replace pw:=pw.below hh;replace hB:=bend hB hh)
       refine hK1.out _ _ (by with_reducible exact ⟨EP.c6,EP.c7,EP.c8,XB.b3.c0,XB.b3.c1,XB.b3.c2⟩) (fun hHeld=>?_)
       clear hK1 K1
       refine wpAnyH_take (i:=7) (oi:=⟨some 54,.binOp BinOp.gtr 3 (.tmp 53) (.const (Value.int IntKind.i64 0)) 3,4, "law.go:94",#[⟨6,.data⟩],none⟩) (v:=?_) rfl (by kernel_rfl) (by kernel_rfl) (by kernel_rfl) (fun _ _ _ h=>h) (Or.inl ⟨by rfl,?_⟩) hHeld ?_
       rotate_left
       · (intro w hSw;(try dsimp only at hSw);go_simp;try with_reducible rfl)
       simp only [Act.put,List.setIfInBounds_toArray,List.set_cons_zero,List.set_cons_succ]
       refine wpAnyH_done (by kernel_rfl) ?_ _
       clear hHeld HT1;have e6:=EP.c6;have e7:=EP.c7;have e8:=EP.c8;have xf0:=XB.b3.f0;have xc0:=XB.b3.c0;have xf1:=XB.b3.f1;have xc1:=XB.b3.c1;have xf2:=XB.b3.f2;have xc2:=XB.b3.c2
       go_upto_region 6 with (fail)
       generalize hW:(((w_y.setCell ⟨gM,0,none⟩ (.bool P.w.s)).setCell ⟨gM,1,none⟩ (.slice P.w.A P.w.n P.w.c)).setCell ⟨gM,2,none⟩ (.slice P.w.B P.w.m P.w.d))=Wn
       have ho:Only gM w_y Wn:=by subst hW;exact only_set3 _ _ _ _ _
       have X2:BQv Wn gM (⟨P.w.s,P.w.A,P.w.n,P.w.c,P.w.B,P.w.m,P.w.d⟩:QV):=by subst hW;exact XB.b3.set3 _ _ _
       have l2:QRv Wn (⟨P.w.s,P.w.A,P.w.n,P.w.c,P.w.B,P.w.m,P.w.d⟩:QV) u.w:=QRv.on (q:=(⟨P.w.s,P.w.A,P.w.n,P.w.c,P.w.B,P.w.m,P.w.d⟩:QV)) pw XB ho
       have o2:=la.on XB ho
       have Y2:=XA.rest (show gL ≠ gM by have:=HSZ.out;omega) ho
       have hB2:=Below.only hB (show w_z.heap.size≤gM by have:=HSZ.out;omega) hB.size ho
       have PK:∃ (qz:QV) (vz:Rat),BQv Wn gM qz∧QRv Wn qz vz∧Hid (vb≤vz∧u.w≤vz):=⟨(⟨P.w.s,P.w.A,P.w.n,P.w.c,P.w.B,P.w.m,P.w.d⟩:QV),u.w,X2,l2,Rat.le_of_lt h1,Rat.le_refl⟩
       clear hW ho XA XB la lb EP pw hB X2 l2 h1 e6 e7 e8 xf0 xf1 xf2 xc0 xc1 xc2;have XA:=Y2;have la:=o2;have hB:=hB2;clear Y2 o2 hB2
      rotate_left
      focus
       obtain ⟨T,hT,hT0⟩:∃ T,cmpQ u.w vb=T∧¬ 0 < T:=⟨_,rfl,wcmp_ngt h1⟩
       have HT1:=Lib.hid hT
       have HD1:Hid (decide (0 < T)=false):=decide_eq_false hT0
       clear hT hT0
       go_upto_region 9 with (fail)
       have EP:=HE.out.below hB
       have pw:=(HP.out.below hB).qw
       replace XA:=XA.below (Below.refl _ _).drew
       replace XB:=XB.below (Below.refl _ _).drew
       replace la:=la.below (Below.refl _ _).drew
       replace lb:=lb.below (Below.refl _ _).drew
       replace EP:=EP.below (Below.refl _ _).drew
       replace pw:=pw.below (Below.refl _ _).drew
       replace hB:=hB.drew
       refine wp_region_held_drew (S:=(fun w'=>w'.cell? ⟨g1,o1+6,none⟩=some (.bool P.w.s)∧w'.cell? ⟨g1,o1+7,none⟩=some (.slice P.w.A P.w.n P.w.c)∧w'.cell? ⟨g1,o1+8,none⟩=some (.slice P.w.B P.w.m P.w.d)∧w'.cell? ⟨gM,0,none⟩=some (.bool qb.s)∧w'.cell? ⟨gM,1,none⟩=some (.slice qb.A qb.n qb.c)∧w'.cell? ⟨gM,2,none⟩=some (.slice qb.B qb.m qb.d))) (by kernel_rfl) (by with_reducible exact ⟨EP.c6,EP.c7,EP.c8,XB.b3.c0,XB.b3.c1,XB.b3.c2⟩) (fun hHeld=>?_)
       refine wpAnyH_take (i:=0) (oi:=⟨some 47,.move (.tmp 0),37, "law.go:94",#[],none⟩) (v:=?_) rfl (by kernel_rfl) (by kernel_rfl) (by kernel_rfl) (fun _ _ _ h=>h) (Or.inl ⟨by rfl,?_⟩) hHeld ?_
       rotate_left
       · (intro w hSw;(try dsimp only at hSw);go_simp;try with_reducible rfl)
       simp only [Act.put,List.setIfInBounds_toArray,List.set_cons_zero,List.set_cons_succ]
       refine wpAnyH_take (i:=1) (oi:=⟨some 48,.move (.tmp 5),3, "law.go:94",#[],none⟩) (v:=?_) rfl (by kernel_rfl) (by kernel_rfl) (by kernel_rfl) (fun _ _ _ h=>h) (Or.inl ⟨by rfl,?_⟩) hHeld ?_
       rotate_left
       · (intro w hSw;(try dsimp only at hSw);go_simp;try with_reducible rfl)
       simp only [Act.put,List.setIfInBounds_toArray,List.set_cons_zero,List.set_cons_succ]
       refine wpAnyH_take (i:=2) (oi:=⟨some 49,.indexAddr 37 (.tmp 47) (.tmp 48),0, "law.go:94",#[⟨0,.data⟩,⟨1,.data⟩],none⟩) (v:=?_) rfl (by kernel_rfl) (by kernel_rfl) (by kernel_rfl) (fun _ _ _ h=>h) (Or.inl ⟨by rfl,?_⟩) hHeld ?_
       rotate_left
       · (intro w hSw;(try dsimp only at hSw);go_simp;try with_reducible rfl)
       simp only [Act.put,List.setIfInBounds_toArray,List.set_cons_zero,List.set_cons_succ]
       refine wpAnyH_take (i:=3) (oi:=⟨some 50,.fieldAddr 79 (.tmp 49) 2,0, "law.go:94",#[⟨2,.data⟩],none⟩) (v:=?_) rfl (by kernel_rfl) (by kernel_rfl) (by kernel_rfl) (fun _ _ _ h=>h) (Or.inl ⟨by rfl,?_⟩) hHeld ?_
       rotate_left
       · (intro w hSw;(try dsimp only at hSw);go_simp;try with_reducible rfl)
       simp only [Act.put,List.setIfInBounds_toArray,List.set_cons_zero,List.set_cons_succ]
       refine wpAnyH_take (i:=4) (oi:=⟨some 51,.load 26 (.tmp 50),26, "law.go:94",#[⟨3,.data⟩],none⟩) (v:=?_) rfl (by kernel_rfl) (by kernel_rfl) (by kernel_rfl) (fun _ _ _ h=>h) (Or.inl ⟨by rfl,?_⟩) hHeld ?_
       rotate_left
       · (intro w hSw;(try dsimp only at hSw);go_simp;try with_reducible rfl)
       simp only [Act.put,List.setIfInBounds_toArray,List.set_cons_zero,List.set_cons_succ]
       refine wpAnyH_take (i:=5) (oi:=⟨some 52,.load 26 (.tmp 4),26, "law.go:94",#[],none⟩) (v:=?_) rfl (by kernel_rfl) (by kernel_rfl) (by kernel_rfl) (fun _ _ _ h=>h) (Or.inl ⟨by rfl,?_⟩) hHeld ?_
       rotate_left
       · (intro w hSw;(try dsimp only at hSw);go_simp;try with_reducible rfl)
       simp only [Act.put,List.setIfInBounds_toArray,List.set_cons_zero,List.set_cons_succ]
       refine wpAnyH_ready (rs:=[6]) (by kernel_rfl) (by simp) ?_
       refine AllReadyH.cons (o:=⟨some 53,.call ⟨.value (.func 28),#[.tmp 51,.tmp 52],#[26,26]⟩,3, "law.go:94",#[⟨4,.data⟩,⟨5,.data⟩],none⟩) rfl (fun K1 hK1=>?_) AllReadyH.nil
       go_simp
       first
       | (go_at_call 28;(with_reducible refine (rcmp_q pw lb.qr (by decide) (by decide) (.inl (by decide)) (by decide) (by decide)).mono ?_);rintro e w_y ⟨rfl,hh⟩;rw [HT1.out]
          replace XA:=XA.below hh;replace XB:=XB.below hh;replace la:=la.below hh;replace lb:=lb.below hh;replace EP:=EP.below hh;replace pw:=pw.below hh;replace hB:=bend hB hh)
       refine hK1.out _ _ (by with_reducible exact ⟨EP.c6,EP.c7,EP.c8,XB.b3.c0,XB.b3.c1,XB.b3.c2⟩) (fun hHeld=>?_)
       clear hK1 K1
       refine wpAnyH_take (i:=7) (oi:=⟨some 54,.binOp BinOp.gtr 3 (.tmp 53) (.const (Value.int IntKind.i64 0)) 3,4, "law.go:94",#[⟨6,.data⟩],none⟩) (v:=?_) rfl (by kernel_rfl) (by kernel_rfl) (by kernel_rfl) (fun _ _ _ h=>h) (Or.inl ⟨by rfl,?_⟩) hHeld ?_
       rotate_left
       · (intro w hSw;(try dsimp only at hSw);go_simp;try with_reducible rfl)
       simp only [Act.put,List.setIfInBounds_toArray,List.set_cons_zero,List.set_cons_succ]
       simp only [HD1.out]
       refine wpAnyH_done (by kernel_rfl) ?_ _
       clear hHeld HT1 HD1
       go_upto_region 6 with (fail)
       generalize w_y=Wn at *
       have PK:∃ (qz:QV) (vz:Rat),BQv Wn gM qz∧QRv Wn qz vz∧Hid (vb≤vz∧u.w≤vz):=⟨qb,vb,XB,lb,Rat.le_refl,Rat.not_lt.1 h1⟩
       clear XB lb h1 EP pw
      all_goals
       obtain ⟨qb2,vb2,XB,lb,Hlb⟩:=PK
       go_wp2_with fail
       go_roundg (gk - 1)
       case measure=>have:=HGK.out;have:=HMN.out;omega
       case rel =>
        refine ⟨m+1,qa2,qb2,va2,vb2,by have:=HGK.out;have:=HMN.out;show _=_;omega,by go_num,⟨XA,XB⟩,⟨la,lb⟩,fun i v hi h5=>?_,hB⟩
        have ha:=Hla.out;have hb_:=Hlb.out
        rcases Nat.lt_or_ge i m with h | h
        · have h6:=HS.out i v h h5
          exact ⟨Rat.le_trans ha.1 h6.1,Rat.le_trans h6.2 hb_.1⟩
        · obtain rfl:i=m:=by omega
          rw [HU.out] at h5;cases h5
          exact ⟨ha.2,hb_.2⟩
   · have hlt:¬ (m:Int) < (n:Int):=by omega
     have hall:∀ k,k < n→va≤(vfn V k).w∧(vfn V k).w≤vb:=fun k hk=>by
      obtain ⟨u,hu⟩:∃ u,V[k]?=some u:=⟨_,List.getElem?_eq_getElem (by rw [HVn.out];exact hk)⟩
      have e:vfn V k=u:=by show V.getD k ⟨0,0,0⟩=u;rw [List.getD_eq_getElem?_getD,hu];rfl
      rw [e]
      exact HS.out k u (by omega) hu
     have HA:=Lib.hid hall
     have HGL:=Lib.hid (HG.out.lf HVn.out)
     have HGR:=Lib.hid (HG.out.rg HVn.out)
     have XA:=HX.out.1;have XB:=HX.out.2;have la:=HQ.out.1;have lb:=HQ.out.2;have hL:=S9.out.1.below hB;have hE:=EachH.belowR S9.out.2.1 hB;have hb:=bend S9.out.2.2 hB;clear hall HX HQ HS hmn hB hBz HXX HQQ
     go_wp2_with (first
      | (go_at_call 20;(with_reducible refine (hCut_ok hL hE HN.out (by decide) (by decide) HG.out).mono ?_);rintro e w_c ⟨AL,AR,LL,LR,rfl,sL,eL,nL,sR,eR,nR,hh⟩
         (try replace XA:=XA.below hh);(try replace XB:=XB.below hh);(try replace la:=la.below hh);(try replace lb:=lb.below hh);replace hb:=bend hb hh))
     have SA:=Lib.hid XA;have SB:=Lib.hid XB;have QA:=Lib.hid la;have QB:=Lib.hid lb;have SL:=Lib.hid sL;have EL:=Lib.hid eL;have NL:=Lib.hid nL;have SR:=Lib.hid sR;have ER:=Lib.hid eR;have NR_:=Lib.hid nR;have HBc:=Lib.hid hb;clear XA XB la lb sL eL nL sR eR nR hb hL hE hh
     go_loopg [9] n (fun gk ix wr=>∃ (m:Nat),Hid (gk+m=n)∧ix=.int .i64 (m:Int)∧Below w_c.heap.size w_c wr)
     case atStart=>exact ⟨0,Nat.add_zero _,rfl,Below.refl _ _⟩
     case round =>
      obtain ⟨m,HGK,rfl,hB⟩:=hrel
      by_cases hmn:m < n
      · have HMN:=Lib.hid hmn
        obtain ⟨P,u,hP1,hu1,p0⟩:=EL.out.at_ (i:=m) (by rw [NL.out];exact hmn)
        obtain ⟨g1,o1,hix1,EP0,_⟩:=SL.out.ht hP1
        obtain ⟨Q,v,hQ1,hv1,q0⟩:=ER.out.at_ (i:=m) (by rw [NR_.out];exact hmn)
        obtain ⟨g2,o2,hix2,EQ0,_⟩:=SR.out.ht hQ1
        obtain rfl:lf (vfn V) m=u:=by rw [li_get _ hmn] at hu1;exact Option.some.inj hu1
        obtain rfl:rg n (vfn V) m=v:=by rw [li_get _ hmn] at hv1;exact Option.some.inj hv1
        have hbl:=nd_between HA.out m 0 (by omega)
        have hbr:=nd_between HA.out (n - 1 - m) m (by omega)
        have hixa:∀ w',(Instr.indexAt 37 (.slice AL n n) (.int .i64 (m:Int))).run Tryz.prog w'=.ok (.pointer (some ⟨g1,o1,none⟩)) w':=fun w'=>hix1 n n w' hmn
        have hixb:∀ w',(Instr.indexAt 37 (.slice AR n n) (.int .i64 (m:Int))).run Tryz.prog w'=.ok (.pointer (some ⟨g2,o2,none⟩)) w':=fun w'=>hix2 n n w' hmn
        have hlt:(m:Int) < (n:Int):=by omega
        have hwr:IntKind.i64.wrap ((m:Int)+1)=(m:Int)+1:=IntWalk.i64_in _ (by omega)
        obtain ⟨T1,hT1,hz1⟩:∃ T,cmpQ (lf (vfn V) m).w va=T∧¬ T < 0:=⟨_,rfl,wcmp_nlt (Rat.not_lt.2 hbl.1)⟩
        have HT1:=Lib.hid hT1
        have HD1:Hid (decide (T1 < 0)=false):=decide_eq_false hz1
        clear hT1 hz1
        obtain ⟨T2,hT2,hz2⟩:∃ T,cmpQ (lf (vfn V) m).w vb=T∧¬ 0 < T:=⟨_,rfl,wcmp_ngt (Rat.not_lt.2 hbl.2)⟩
        have HT2:=Lib.hid hT2
        have HD2:Hid (decide (0 < T2)=false):=decide_eq_false hz2
        clear hT2 hz2
        obtain ⟨T3,hT3,hz3⟩:∃ T,cmpQ (rg n (vfn V) m).w va=T∧¬ T < 0:=⟨_,rfl,wcmp_nlt (Rat.not_lt.2 hbr.1)⟩
        have HT3:=Lib.hid hT3
        have HD3:Hid (decide (T3 < 0)=false):=decide_eq_false hz3
        clear hT3 hz3
        obtain ⟨T4,hT4,hz4⟩:∃ T,cmpQ (rg n (vfn V) m).w vb=T∧¬ 0 < T:=⟨_,rfl,wcmp_ngt (Rat.not_lt.2 hbr.2)⟩
        have HT4:=Lib.hid hT4
        have HD4:Hid (decide (0 < T4)=false):=decide_eq_false hz4
        clear hT4 hz4;have XA:=SA.out.below hB;have XB:=SB.out.below hB;have la:=QA.out.below hB;have lb:=QB.out.below hB;have EP:=EP0.below hB;have EQ:=EQ0.below hB
        have pw:=(p0.below hB).hr.qw
        have qw:=(q0.below hB).hr.qw
        clear hP1 hu1 hix1 hQ1 hv1 hix2 hmn EP0 EQ0 p0 q0 hbl hbr
        go_upto_region 17 with (fail)
        replace XA:=XA.below (Below.refl _ _).drew
        replace XB:=XB.below (Below.refl _ _).drew
        replace la:=la.below (Below.refl _ _).drew
        replace lb:=lb.below (Below.refl _ _).drew
        replace EP:=EP.below (Below.refl _ _).drew
        replace EQ:=EQ.below (Below.refl _ _).drew
        replace pw:=pw.below (Below.refl _ _).drew
        replace qw:=qw.below (Below.refl _ _).drew
        replace hB:=hB.drew
        refine wp_region_held_drew (S:=(fun w'=>w'.cell? ⟨g1,o1+6,none⟩=some (.bool P.w.s)∧w'.cell? ⟨g1,o1+7,none⟩=some (.slice P.w.A P.w.n P.w.c)∧w'.cell? ⟨g1,o1+8,none⟩=some (.slice P.w.B P.w.m P.w.d)∧w'.cell? ⟨g2,o2+6,none⟩=some (.bool Q.w.s)∧w'.cell? ⟨g2,o2+7,none⟩=some (.slice Q.w.A Q.w.n Q.w.c)∧w'.cell? ⟨g2,o2+8,none⟩=some (.slice Q.w.B Q.w.m Q.w.d)∧w'.cell? ⟨gL,0,none⟩=some (.bool qa.s)∧w'.cell? ⟨gL,1,none⟩=some (.slice qa.A qa.n qa.c)∧w'.cell? ⟨gL,2,none⟩=some (.slice qa.B qa.m qa.d)∧w'.cell? ⟨gM,0,none⟩=some (.bool qb.s)∧w'.cell? ⟨gM,1,none⟩=some (.slice qb.A qb.n qb.c)∧w'.cell? ⟨gM,2,none⟩=some (.slice qb.B qb.m qb.d))) (by kernel_rfl) (by with_reducible exact ⟨EP.c6,EP.c7,EP.c8,EQ.c6,EQ.c7,EQ.c8,XA.b3.c0,XA.b3.c1,XA.b3.c2,XB.b3.c0,XB.b3.c1,XB.b3.c2⟩) (fun hHeld=>?_)
        refine wpAnyH_take (i:=0) (oi:=⟨some 88,.move (.tmp 6),37, "law.go:103",#[],none⟩) (v:=?_) rfl (by kernel_rfl) (by kernel_rfl) (by kernel_rfl) (fun _ _ _ h=>h) (Or.inl ⟨by rfl,?_⟩) hHeld ?_
        rotate_left
        · (intro w hSw;(try dsimp only at hSw);go_simp;try with_reducible rfl)
        simp only [Act.put,List.setIfInBounds_toArray,List.set_cons_zero,List.set_cons_succ]
        refine wpAnyH_take (i:=1) (oi:=⟨some 89,.move (.tmp 9),3, "law.go:103",#[],none⟩) (v:=?_) rfl (by kernel_rfl) (by kernel_rfl) (by kernel_rfl) (fun _ _ _ h=>h) (Or.inl ⟨by rfl,?_⟩) hHeld ?_
        rotate_left
        · (intro w hSw;(try dsimp only at hSw);go_simp;try with_reducible rfl)
        simp only [Act.put,List.setIfInBounds_toArray,List.set_cons_zero,List.set_cons_succ]
        refine wpAnyH_take (i:=2) (oi:=⟨some 90,.indexAddr 37 (.tmp 88) (.tmp 89),0, "law.go:103",#[⟨0,.data⟩,⟨1,.data⟩],none⟩) (v:=?_) rfl (by kernel_rfl) (by kernel_rfl) (by kernel_rfl) (fun _ _ _ h=>h) (Or.inl ⟨by rfl,?_⟩) hHeld ?_
        rotate_left
        · (intro w hSw;(try dsimp only at hSw);go_simp;try with_reducible rfl)
        simp only [Act.put,List.setIfInBounds_toArray,List.set_cons_zero,List.set_cons_succ]
        refine wpAnyH_take (i:=3) (oi:=⟨some 91,.fieldAddr 79 (.tmp 90) 2,0, "law.go:103",#[⟨2,.data⟩],none⟩) (v:=?_) rfl (by kernel_rfl) (by kernel_rfl) (by kernel_rfl) (fun _ _ _ h=>h) (Or.inl ⟨by rfl,?_⟩) hHeld ?_
        rotate_left
        · (intro w hSw;(try dsimp only at hSw);go_simp;try with_reducible rfl)
        simp only [Act.put,List.setIfInBounds_toArray,List.set_cons_zero,List.set_cons_succ]
        refine wpAnyH_take (i:=4) (oi:=⟨some 92,.load 26 (.tmp 91),26, "law.go:103",#[⟨3,.data⟩],none⟩) (v:=?_) rfl (by kernel_rfl) (by kernel_rfl) (by kernel_rfl) (fun _ _ _ h=>h) (Or.inl ⟨by rfl,?_⟩) hHeld ?_
        rotate_left
        · (intro w hSw;(try dsimp only at hSw);go_simp;try with_reducible rfl)
        simp only [Act.put,List.setIfInBounds_toArray,List.set_cons_zero,List.set_cons_succ]
        refine wpAnyH_take (i:=5) (oi:=⟨some 93,.load 26 (.tmp 3),26, "law.go:103",#[],none⟩) (v:=?_) rfl (by kernel_rfl) (by kernel_rfl) (by kernel_rfl) (fun _ _ _ h=>h) (Or.inl ⟨by rfl,?_⟩) hHeld ?_
        rotate_left
        · (intro w hSw;(try dsimp only at hSw);go_simp;try with_reducible rfl)
        simp only [Act.put,List.setIfInBounds_toArray,List.set_cons_zero,List.set_cons_succ]
        refine wpAnyH_ready (rs:=[6]) (by kernel_rfl) (by simp) ?_
        refine AllReadyH.cons (o:=⟨some 94,.call ⟨.value (.func 28),#[.tmp 92,.tmp 93],#[26,26]⟩,3, "law.go:103",#[⟨4,.data⟩,⟨5,.data⟩],none⟩) rfl (fun K1 hK1=>?_) AllReadyH.nil
        go_simp
        first
        | (go_at_call 28;(with_reducible refine (rcmp_q pw la.qr (by decide) (by decide) (.inl (by decide)) (by decide) (by decide)).mono ?_);rintro e w_yHT1 ⟨rfl,hh⟩;rw [HT1.out]
           replace XA:=XA.below hh;replace XB:=XB.below hh;replace la:=la.below hh;replace lb:=lb.below hh;replace EP:=EP.below hh;replace EQ:=EQ.below hh;replace pw:=pw.below hh;replace qw:=qw.below hh;replace hB:=bend hB hh)
        | (go_at_call 28;(with_reducible refine (rcmp_q pw lb.qr (by decide) (by decide) (.inl (by decide)) (by decide) (by decide)).mono ?_);rintro e w_yHT2 ⟨rfl,hh⟩;rw [HT2.out]
           replace XA:=XA.below hh;replace XB:=XB.below hh;replace la:=la.below hh;replace lb:=lb.below hh;replace EP:=EP.below hh;replace EQ:=EQ.below hh;replace pw:=pw.below hh;replace qw:=qw.below hh;replace hB:=bend hB hh)
        | (go_at_call 28;(with_reducible refine (rcmp_q qw la.qr (by decide) (by decide) (.inl (by decide)) (by decide) (by decide)).mono ?_);rintro e w_yHT3 ⟨rfl,hh⟩;rw [HT3.out]
           replace XA:=XA.below hh;replace XB:=XB.below hh;replace la:=la.below hh;replace lb:=lb.below hh;replace EP:=EP.below hh;replace EQ:=EQ.below hh;replace pw:=pw.below hh;replace qw:=qw.below hh;replace hB:=bend hB hh)
        | (go_at_call 28;(with_reducible refine (rcmp_q qw lb.qr (by decide) (by decide) (.inl (by decide)) (by decide) (by decide)).mono ?_);rintro e w_yHT4 ⟨rfl,hh⟩;rw [HT4.out]
           replace XA:=XA.below hh;replace XB:=XB.below hh;replace la:=la.below hh;replace lb:=lb.below hh;replace EP:=EP.below hh;replace EQ:=EQ.below hh;replace pw:=pw.below hh;replace qw:=qw.below hh;replace hB:=bend hB hh)
        refine hK1.out _ _ (by with_reducible exact ⟨EP.c6,EP.c7,EP.c8,EQ.c6,EQ.c7,EQ.c8,XA.b3.c0,XA.b3.c1,XA.b3.c2,XB.b3.c0,XB.b3.c1,XB.b3.c2⟩) (fun hHeld=>?_)
        clear hK1 K1
        refine wpAnyH_take (i:=7) (oi:=⟨some 95,.binOp BinOp.lss 3 (.tmp 94) (.const (Value.int IntKind.i64 0)) 3,4, "law.go:103",#[⟨6,.data⟩],none⟩) (v:=?_) rfl (by kernel_rfl) (by kernel_rfl) (by kernel_rfl) (fun _ _ _ h=>h) (Or.inl ⟨by rfl,?_⟩) hHeld ?_
        rotate_left
        · (intro w hSw;(try dsimp only at hSw);go_simp;try with_reducible rfl)
        simp only [Act.put,List.setIfInBounds_toArray,List.set_cons_zero,List.set_cons_succ]
        simp only [HD1.out]
        refine wpAnyH_take (i:=8) (oi:=⟨some 96,.move (.tmp 95),4, "law.go:103",#[⟨7,.data⟩,⟨6,.chain⟩],none⟩) (v:=?_) rfl (by kernel_rfl) (by kernel_rfl) (by kernel_rfl) (fun _ _ _ h=>h) (Or.inl ⟨by rfl,?_⟩) hHeld ?_
        rotate_left
        · (intro w hSw;(try dsimp only at hSw);go_simp;try with_reducible rfl)
        simp only [Act.put,List.setIfInBounds_toArray,List.set_cons_zero,List.set_cons_succ]
        refine wpAnyH_take (i:=9) (oi:=⟨some 97,.move (.tmp 6),37, "law.go:103",#[⟨8,.guard⟩],some (8,false)⟩) (v:=?_) rfl (by kernel_rfl) (by kernel_rfl) (by kernel_rfl) (fun _ _ _ h=>h) (Or.inl ⟨by rfl,?_⟩) hHeld ?_
        rotate_left
        · (intro w hSw;(try dsimp only at hSw);go_simp;try with_reducible rfl)
        simp only [Act.put,List.setIfInBounds_toArray,List.set_cons_zero,List.set_cons_succ]
        refine wpAnyH_take (i:=10) (oi:=⟨some 98,.move (.tmp 9),3, "law.go:103",#[⟨8,.guard⟩],some (8,false)⟩) (v:=?_) rfl (by kernel_rfl) (by kernel_rfl) (by kernel_rfl) (fun _ _ _ h=>h) (Or.inl ⟨by rfl,?_⟩) hHeld ?_
        rotate_left
        · (intro w hSw;(try dsimp only at hSw);go_simp;try with_reducible rfl)
        simp only [Act.put,List.setIfInBounds_toArray,List.set_cons_zero,List.set_cons_succ]
        refine wpAnyH_take (i:=11) (oi:=⟨some 99,.indexAddr 37 (.tmp 97) (.tmp 98),0, "law.go:103",#[⟨9,.data⟩,⟨10,.data⟩,⟨8,.guard⟩],some (8,false)⟩) (v:=?_) rfl (by kernel_rfl) (by kernel_rfl) (by kernel_rfl) (fun _ _ _ h=>h) (Or.inl ⟨by rfl,?_⟩) hHeld ?_
        rotate_left
        · (intro w hSw;(try dsimp only at hSw);go_simp;try with_reducible rfl)
        simp only [Act.put,List.setIfInBounds_toArray,List.set_cons_zero,List.set_cons_succ]
        refine wpAnyH_take (i:=12) (oi:=⟨some 100,.fieldAddr 79 (.tmp 99) 2,0, "law.go:103",#[⟨11,.data⟩,⟨8,.guard⟩],some (8,false)⟩) (v:=?_) rfl (by kernel_rfl) (by kernel_rfl) (by kernel_rfl) (fun _ _ _ h=>h) (Or.inl ⟨by rfl,?_⟩) hHeld ?_
        rotate_left
        · (intro w hSw;(try dsimp only at hSw);go_simp;try with_reducible rfl)
        simp only [Act.put,List.setIfInBounds_toArray,List.set_cons_zero,List.set_cons_succ]
        refine wpAnyH_take (i:=13) (oi:=⟨some 101,.load 26 (.tmp 100),26, "law.go:103",#[⟨12,.data⟩,⟨8,.guard⟩],some (8,false)⟩) (v:=?_) rfl (by kernel_rfl) (by kernel_rfl) (by kernel_rfl) (fun _ _ _ h=>h) (Or.inl ⟨by rfl,?_⟩) hHeld ?_
        rotate_left
        · (intro w hSw;(try dsimp only at hSw);go_simp;try with_reducible rfl)
        simp only [Act.put,List.setIfInBounds_toArray,List.set_cons_zero,List.set_cons_succ]
        refine wpAnyH_take (i:=14) (oi:=⟨some 102,.load 26 (.tmp 4),26, "law.go:103",#[⟨8,.guard⟩],some (8,false)⟩) (v:=?_) rfl (by kernel_rfl) (by kernel_rfl) (by kernel_rfl) (fun _ _ _ h=>h) (Or.inl ⟨by rfl,?_⟩) hHeld ?_
        rotate_left
        · (intro w hSw;(try dsimp only at hSw);go_simp;try with_reducible rfl)
        simp only [Act.put,List.setIfInBounds_toArray,List.set_cons_zero,List.set_cons_succ]
        refine wpAnyH_ready (rs:=[15]) (by kernel_rfl) (by simp) ?_
        refine AllReadyH.cons (o:=⟨some 103,.call ⟨.value (.func 28),#[.tmp 101,.tmp 102],#[26,26]⟩,3, "law.go:103",#[⟨13,.data⟩,⟨14,.data⟩,⟨8,.chain⟩,⟨8,.guard⟩],some (8,false)⟩) rfl (fun K1 hK1=>?_) AllReadyH.nil
        go_simp
        first
        | (go_at_call 28;(with_reducible refine (rcmp_q pw la.qr (by decide) (by decide) (.inl (by decide)) (by decide) (by decide)).mono ?_);rintro e w_yHT1 ⟨rfl,hh⟩;rw [HT1.out]
           replace XA:=XA.below hh;replace XB:=XB.below hh;replace la:=la.below hh;replace lb:=lb.below hh;replace EP:=EP.below hh;replace EQ:=EQ.below hh;replace pw:=pw.below hh;replace qw:=qw.below hh;replace hB:=bend hB hh)
        | (go_at_call 28;(with_reducible refine (rcmp_q pw lb.qr (by decide) (by decide) (.inl (by decide)) (by decide) (by decide)).mono ?_);rintro e w_yHT2 ⟨rfl,hh⟩;rw [HT2.out]
           replace XA:=XA.below hh;replace XB:=XB.below hh;replace la:=la.below hh;replace lb:=lb.below hh;replace EP:=EP.below hh;replace EQ:=EQ.below hh;replace pw:=pw.below hh;replace qw:=qw.below hh;replace hB:=bend hB hh)
        | (go_at_call 28;(with_reducible refine (rcmp_q qw la.qr (by decide) (by decide) (.inl (by decide)) (by decide) (by decide)).mono ?_);rintro e w_yHT3 ⟨rfl,hh⟩;rw [HT3.out]
           replace XA:=XA.below hh;replace XB:=XB.below hh;replace la:=la.below hh;replace lb:=lb.below hh;replace EP:=EP.below hh;replace EQ:=EQ.below hh;replace pw:=pw.below hh;replace qw:=qw.below hh;replace hB:=bend hB hh)
        | (go_at_call 28;(with_reducible refine (rcmp_q qw lb.qr (by decide) (by decide) (.inl (by decide)) (by decide) (by decide)).mono ?_);rintro e w_yHT4 ⟨rfl,hh⟩;rw [HT4.out]
           replace XA:=XA.below hh;replace XB:=XB.below hh;replace la:=la.below hh;replace lb:=lb.below hh;replace EP:=EP.below hh;replace EQ:=EQ.below hh;replace pw:=pw.below hh;replace qw:=qw.below hh;replace hB:=bend hB hh)
        refine hK1.out _ _ (by with_reducible exact ⟨EP.c6,EP.c7,EP.c8,EQ.c6,EQ.c7,EQ.c8,XA.b3.c0,XA.b3.c1,XA.b3.c2,XB.b3.c0,XB.b3.c1,XB.b3.c2⟩) (fun hHeld=>?_)
        clear hK1 K1
        refine wpAnyH_take (i:=16) (oi:=⟨some 104,.binOp BinOp.gtr 3 (.tmp 103) (.const (Value.int IntKind.i64 0)) 3,4, "law.go:103",#[⟨15,.data⟩,⟨8,.guard⟩],some (8,false)⟩) (v:=?_) rfl (by kernel_rfl) (by kernel_rfl) (by kernel_rfl) (fun _ _ _ h=>h) (Or.inl ⟨by rfl,?_⟩) hHeld ?_
        rotate_left
        · (intro w hSw;(try dsimp only at hSw);go_simp;try with_reducible rfl)
        simp only [Act.put,List.setIfInBounds_toArray,List.set_cons_zero,List.set_cons_succ]
        simp only [HD2.out]
        refine wpAnyH_take (i:=17) (oi:=⟨some 105,.pick (.tmp 96) (.const (Value.bool true)) (.tmp 104),4, "law.go:103",#[⟨8,.data⟩,⟨16,.data⟩],none⟩) (v:=?_) rfl (by kernel_rfl) (by kernel_rfl) (by kernel_rfl) (fun _ _ _ h=>h) (Or.inl ⟨by rfl,?_⟩) hHeld ?_
        rotate_left
        · (intro w hSw;(try dsimp only at hSw);go_simp;try with_reducible rfl)
        simp only [Act.put,List.setIfInBounds_toArray,List.set_cons_zero,List.set_cons_succ]
        refine wpAnyH_take (i:=18) (oi:=⟨some 106,.move (.tmp 105),4, "law.go:103",#[⟨17,.data⟩,⟨15,.chain⟩],none⟩) (v:=?_) rfl (by kernel_rfl) (by kernel_rfl) (by kernel_rfl) (fun _ _ _ h=>h) (Or.inl ⟨by rfl,?_⟩) hHeld ?_
        rotate_left
        · (intro w hSw;(try dsimp only at hSw);go_simp;try with_reducible rfl)
        simp only [Act.put,List.setIfInBounds_toArray,List.set_cons_zero,List.set_cons_succ]
        refine wpAnyH_take (i:=19) (oi:=⟨some 107,.move (.tmp 7),37, "law.go:103",#[⟨18,.guard⟩],some (18,false)⟩) (v:=?_) rfl (by kernel_rfl) (by kernel_rfl) (by kernel_rfl) (fun _ _ _ h=>h) (Or.inl ⟨by rfl,?_⟩) hHeld ?_
        rotate_left
        · (intro w hSw;(try dsimp only at hSw);go_simp;try with_reducible rfl)
        simp only [Act.put,List.setIfInBounds_toArray,List.set_cons_zero,List.set_cons_succ]
        refine wpAnyH_take (i:=20) (oi:=⟨some 108,.move (.tmp 9),3, "law.go:103",#[⟨18,.guard⟩],some (18,false)⟩) (v:=?_) rfl (by kernel_rfl) (by kernel_rfl) (by kernel_rfl) (fun _ _ _ h=>h) (Or.inl ⟨by rfl,?_⟩) hHeld ?_
        rotate_left
        · (intro w hSw;(try dsimp only at hSw);go_simp;try with_reducible rfl)
        simp only [Act.put,List.setIfInBounds_toArray,List.set_cons_zero,List.set_cons_succ]
        refine wpAnyH_take (i:=21) (oi:=⟨some 109,.indexAddr 37 (.tmp 107) (.tmp 108),0, "law.go:103",#[⟨19,.data⟩,⟨20,.data⟩,⟨18,.guard⟩],some (18,false)⟩) (v:=?_) rfl (by kernel_rfl) (by kernel_rfl) (by kernel_rfl) (fun _ _ _ h=>h) (Or.inl ⟨by rfl,?_⟩) hHeld ?_
        rotate_left
        · (intro w hSw;(try dsimp only at hSw);go_simp;try with_reducible rfl)
        simp only [Act.put,List.setIfInBounds_toArray,List.set_cons_zero,List.set_cons_succ]
        refine wpAnyH_take (i:=22) (oi:=⟨some 110,.fieldAddr 79 (.tmp 109) 2,0, "law.go:103",#[⟨21,.data⟩,⟨18,.guard⟩],some (18,false)⟩) (v:=?_) rfl (by kernel_rfl) (by kernel_rfl) (by kernel_rfl) (fun _ _ _ h=>h) (Or.inl ⟨by rfl,?_⟩) hHeld ?_
        rotate_left
        · (intro w hSw;(try dsimp only at hSw);go_simp;try with_reducible rfl)
        simp only [Act.put,List.setIfInBounds_toArray,List.set_cons_zero,List.set_cons_succ]
        refine wpAnyH_take (i:=23) (oi:=⟨some 111,.load 26 (.tmp 110),26, "law.go:103",#[⟨22,.data⟩,⟨18,.guard⟩],some (18,false)⟩) (v:=?_) rfl (by kernel_rfl) (by kernel_rfl) (by kernel_rfl) (fun _ _ _ h=>h) (Or.inl ⟨by rfl,?_⟩) hHeld ?_
        rotate_left
        · (intro w hSw;(try dsimp only at hSw);go_simp;try with_reducible rfl)
        simp only [Act.put,List.setIfInBounds_toArray,List.set_cons_zero,List.set_cons_succ]
        refine wpAnyH_take (i:=24) (oi:=⟨some 112,.load 26 (.tmp 3),26, "law.go:103",#[⟨18,.guard⟩],some (18,false)⟩) (v:=?_) rfl (by kernel_rfl) (by kernel_rfl) (by kernel_rfl) (fun _ _ _ h=>h) (Or.inl ⟨by rfl,?_⟩) hHeld ?_
        rotate_left
        · (intro w hSw;(try dsimp only at hSw);go_simp;try with_reducible rfl)
        simp only [Act.put,List.setIfInBounds_toArray,List.set_cons_zero,List.set_cons_succ]
        refine wpAnyH_ready (rs:=[25]) (by kernel_rfl) (by simp) ?_
        refine AllReadyH.cons (o:=⟨some 113,.call ⟨.value (.func 28),#[.tmp 111,.tmp 112],#[26,26]⟩,3, "law.go:103",#[⟨23,.data⟩,⟨24,.data⟩,⟨18,.chain⟩,⟨18,.guard⟩],some (18,false)⟩) rfl (fun K1 hK1=>?_) AllReadyH.nil
        go_simp
        first
        | (go_at_call 28;(with_reducible refine (rcmp_q pw la.qr (by decide) (by decide) (.inl (by decide)) (by decide) (by decide)).mono ?_);rintro e w_yHT1 ⟨rfl,hh⟩;rw [HT1.out]
           replace XA:=XA.below hh;replace XB:=XB.below hh;replace la:=la.below hh;replace lb:=lb.below hh;replace EP:=EP.below hh;replace EQ:=EQ.below hh;replace pw:=pw.below hh;replace qw:=qw.below hh;replace hB:=bend hB hh)
        | (go_at_call 28;(with_reducible refine (rcmp_q pw lb.qr (by decide) (by decide) (.inl (by decide)) (by decide) (by decide)).mono ?_);rintro e w_yHT2 ⟨rfl,hh⟩;rw [HT2.out]
           replace XA:=XA.below hh;replace XB:=XB.below hh;replace la:=la.below hh;replace lb:=lb.below hh;replace EP:=EP.below hh;replace EQ:=EQ.below hh;replace pw:=pw.below hh;replace qw:=qw.below hh;replace hB:=bend hB hh)
        | (go_at_call 28;(with_reducible refine (rcmp_q qw la.qr (by decide) (by decide) (.inl (by decide)) (by decide) (by decide)).mono ?_);rintro e w_yHT3 ⟨rfl,hh⟩;rw [HT3.out]
           replace XA:=XA.below hh;replace XB:=XB.below hh;replace la:=la.below hh;replace lb:=lb.below hh;replace EP:=EP.below hh;replace EQ:=EQ.below hh;replace pw:=pw.below hh;replace qw:=qw.below hh;replace hB:=bend hB hh)
        | (go_at_call 28;(with_reducible refine (rcmp_q qw lb.qr (by decide) (by decide) (.inl (by decide)) (by decide) (by decide)).mono ?_);rintro e w_yHT4 ⟨rfl,hh⟩;rw [HT4.out]
           replace XA:=XA.below hh;replace XB:=XB.below hh;replace la:=la.below hh;replace lb:=lb.below hh;replace EP:=EP.below hh;replace EQ:=EQ.below hh;replace pw:=pw.below hh;replace qw:=qw.below hh;replace hB:=bend hB hh)
        refine hK1.out _ _ (by with_reducible exact ⟨EP.c6,EP.c7,EP.c8,EQ.c6,EQ.c7,EQ.c8,XA.b3.c0,XA.b3.c1,XA.b3.c2,XB.b3.c0,XB.b3.c1,XB.b3.c2⟩) (fun hHeld=>?_)
        clear hK1 K1
        refine wpAnyH_take (i:=26) (oi:=⟨some 114,.binOp BinOp.lss 3 (.tmp 113) (.const (Value.int IntKind.i64 0)) 3,4, "law.go:103",#[⟨25,.data⟩,⟨18,.guard⟩],some (18,false)⟩) (v:=?_) rfl (by kernel_rfl) (by kernel_rfl) (by kernel_rfl) (fun _ _ _ h=>h) (Or.inl ⟨by rfl,?_⟩) hHeld ?_
        rotate_left
        · (intro w hSw;(try dsimp only at hSw);go_simp;try with_reducible rfl)
        simp only [Act.put,List.setIfInBounds_toArray,List.set_cons_zero,List.set_cons_succ]
        simp only [HD3.out]
        refine wpAnyH_take (i:=27) (oi:=⟨some 115,.pick (.tmp 106) (.const (Value.bool true)) (.tmp 114),4, "law.go:103",#[⟨18,.data⟩,⟨26,.data⟩],none⟩) (v:=?_) rfl (by kernel_rfl) (by kernel_rfl) (by kernel_rfl) (fun _ _ _ h=>h) (Or.inl ⟨by rfl,?_⟩) hHeld ?_
        rotate_left
        · (intro w hSw;(try dsimp only at hSw);go_simp;try with_reducible rfl)
        simp only [Act.put,List.setIfInBounds_toArray,List.set_cons_zero,List.set_cons_succ]
        refine wpAnyH_take (i:=28) (oi:=⟨some 116,.move (.tmp 115),4, "law.go:103",#[⟨27,.data⟩,⟨25,.chain⟩],none⟩) (v:=?_) rfl (by kernel_rfl) (by kernel_rfl) (by kernel_rfl) (fun _ _ _ h=>h) (Or.inl ⟨by rfl,?_⟩) hHeld ?_
        rotate_left
        · (intro w hSw;(try dsimp only at hSw);go_simp;try with_reducible rfl)
        simp only [Act.put,List.setIfInBounds_toArray,List.set_cons_zero,List.set_cons_succ]
        refine wpAnyH_take (i:=29) (oi:=⟨some 117,.move (.tmp 7),37, "law.go:103",#[⟨28,.guard⟩],some (28,false)⟩) (v:=?_) rfl (by kernel_rfl) (by kernel_rfl) (by kernel_rfl) (fun _ _ _ h=>h) (Or.inl ⟨by rfl,?_⟩) hHeld ?_
        rotate_left
        · (intro w hSw;(try dsimp only at hSw);go_simp;try with_reducible rfl)
        simp only [Act.put,List.setIfInBounds_toArray,List.set_cons_zero,List.set_cons_succ]
        refine wpAnyH_take (i:=30) (oi:=⟨some 118,.move (.tmp 9),3, "law.go:103",#[⟨28,.guard⟩],some (28,false)⟩) (v:=?_) rfl (by kernel_rfl) (by kernel_rfl) (by kernel_rfl) (fun _ _ _ h=>h) (Or.inl ⟨by rfl,?_⟩) hHeld ?_
        rotate_left
        · (intro w hSw;(try dsimp only at hSw);go_simp;try with_reducible rfl)
        simp only [Act.put,List.setIfInBounds_toArray,List.set_cons_zero,List.set_cons_succ]
        refine wpAnyH_take (i:=31) (oi:=⟨some 119,.indexAddr 37 (.tmp 117) (.tmp 118),0, "law.go:103",#[⟨29,.data⟩,⟨30,.data⟩,⟨28,.guard⟩],some (28,false)⟩) (v:=?_) rfl (by kernel_rfl) (by kernel_rfl) (by kernel_rfl) (fun _ _ _ h=>h) (Or.inl ⟨by rfl,?_⟩) hHeld ?_
        rotate_left
        · (intro w hSw;(try dsimp only at hSw);go_simp;try with_reducible rfl)
        simp only [Act.put,List.setIfInBounds_toArray,List.set_cons_zero,List.set_cons_succ]
        refine wpAnyH_take (i:=32) (oi:=⟨some 120,.fieldAddr 79 (.tmp 119) 2,0, "law.go:103",#[⟨31,.data⟩,⟨28,.guard⟩],some (28,false)⟩) (v:=?_) rfl (by kernel_rfl) (by kernel_rfl) (by kernel_rfl) (fun _ _ _ h=>h) (Or.inl ⟨by rfl,?_⟩) hHeld ?_
        rotate_left
        · (intro w hSw;(try dsimp only at hSw);go_simp;try with_reducible rfl)
        simp only [Act.put,List.setIfInBounds_toArray,List.set_cons_zero,List.set_cons_succ]
        refine wpAnyH_take (i:=33) (oi:=⟨some 121,.load 26 (.tmp 120),26, "law.go:103",#[⟨32,.data⟩,⟨28,.guard⟩],some (28,false)⟩) (v:=?_) rfl (by kernel_rfl) (by kernel_rfl) (by kernel_rfl) (fun _ _ _ h=>h) (Or.inl ⟨by rfl,?_⟩) hHeld ?_
        rotate_left
        · (intro w hSw;(try dsimp only at hSw);go_simp;try with_reducible rfl)
        simp only [Act.put,List.setIfInBounds_toArray,List.set_cons_zero,List.set_cons_succ]
        refine wpAnyH_take (i:=34) (oi:=⟨some 122,.load 26 (.tmp 4),26, "law.go:103",#[⟨28,.guard⟩],some (28,false)⟩) (v:=?_) rfl (by kernel_rfl) (by kernel_rfl) (by kernel_rfl) (fun _ _ _ h=>h) (Or.inl ⟨by rfl,?_⟩) hHeld ?_
        rotate_left
        · (intro w hSw;(try dsimp only at hSw);go_simp;try with_reducible rfl)
        simp only [Act.put,List.setIfInBounds_toArray,List.set_cons_zero,List.set_cons_succ]
        refine wpAnyH_ready (rs:=[35]) (by kernel_rfl) (by simp) ?_
        refine AllReadyH.cons (o:=⟨some 123,.call ⟨.value (.func 28),#[.tmp 121,.tmp 122],#[26,26]⟩,3, "law.go:103",#[⟨33,.data⟩,⟨34,.data⟩,⟨28,.chain⟩,⟨28,.guard⟩],some (28,false)⟩) rfl (fun K1 hK1=>?_) AllReadyH.nil
        go_simp
        first
        | (go_at_call 28;(with_reducible refine (rcmp_q pw la.qr (by decide) (by decide) (.inl (by decide)) (by decide) (by decide)).mono ?_);rintro e w_yHT1 ⟨rfl,hh⟩;rw [HT1.out]
           replace XA:=XA.below hh;replace XB:=XB.below hh;replace la:=la.below hh;replace lb:=lb.below hh;replace EP:=EP.below hh;replace EQ:=EQ.below hh;replace pw:=pw.below hh;replace qw:=qw.below hh;replace hB:=bend hB hh)
        | (go_at_call 28;(with_reducible refine (rcmp_q pw lb.qr (by decide) (by decide) (.inl (by decide)) (by decide) (by decide)).mono ?_);rintro e w_yHT2 ⟨rfl,hh⟩;rw [HT2.out]
           replace XA:=XA.below hh;replace XB:=XB.below hh;replace la:=la.below hh;replace lb:=lb.below hh;replace EP:=EP.below hh;replace EQ:=EQ.below hh;replace pw:=pw.below hh;replace qw:=qw.below hh;replace hB:=bend hB hh)
        | (go_at_call 28;(with_reducible refine (rcmp_q qw la.qr (by decide) (by decide) (.inl (by decide)) (by decide) (by decide)).mono ?_);rintro e w_yHT3 ⟨rfl,hh⟩;rw [HT3.out]
           replace XA:=XA.below hh;replace XB:=XB.below hh;replace la:=la.below hh;replace lb:=lb.below hh;replace EP:=EP.below hh;replace EQ:=EQ.below hh;replace pw:=pw.below hh;replace qw:=qw.below hh;replace hB:=bend hB hh)
        | (go_at_call 28;(with_reducible refine (rcmp_q qw lb.qr (by decide) (by decide) (.inl (by decide)) (by decide) (by decide)).mono ?_);rintro e w_yHT4 ⟨rfl,hh⟩;rw [HT4.out]
           replace XA:=XA.below hh;replace XB:=XB.below hh;replace la:=la.below hh;replace lb:=lb.below hh;replace EP:=EP.below hh;replace EQ:=EQ.below hh;replace pw:=pw.below hh;replace qw:=qw.below hh;replace hB:=bend hB hh)
        refine hK1.out _ _ (by with_reducible exact ⟨EP.c6,EP.c7,EP.c8,EQ.c6,EQ.c7,EQ.c8,XA.b3.c0,XA.b3.c1,XA.b3.c2,XB.b3.c0,XB.b3.c1,XB.b3.c2⟩) (fun hHeld=>?_)
        clear hK1 K1
        refine wpAnyH_take (i:=36) (oi:=⟨some 124,.binOp BinOp.gtr 3 (.tmp 123) (.const (Value.int IntKind.i64 0)) 3,4, "law.go:103",#[⟨35,.data⟩,⟨28,.guard⟩],some (28,false)⟩) (v:=?_) rfl (by kernel_rfl) (by kernel_rfl) (by kernel_rfl) (fun _ _ _ h=>h) (Or.inl ⟨by rfl,?_⟩) hHeld ?_
        rotate_left
        · (intro w hSw;(try dsimp only at hSw);go_simp;try with_reducible rfl)
        simp only [Act.put,List.setIfInBounds_toArray,List.set_cons_zero,List.set_cons_succ]
        simp only [HD4.out]
        refine wpAnyH_take (i:=37) (oi:=⟨some 125,.pick (.tmp 116) (.const (Value.bool true)) (.tmp 124),4, "law.go:103",#[⟨28,.data⟩,⟨36,.data⟩],none⟩) (v:=?_) rfl (by kernel_rfl) (by kernel_rfl) (by kernel_rfl) (fun _ _ _ h=>h) (Or.inl ⟨by rfl,?_⟩) hHeld ?_
        rotate_left
        · (intro w hSw;(try dsimp only at hSw);go_simp;try with_reducible rfl)
        simp only [Act.put,List.setIfInBounds_toArray,List.set_cons_zero,List.set_cons_succ]
        refine wpAnyH_done (by kernel_rfl) ?_ _
        clear hHeld XA XB la lb EP EQ pw qw HT1 HT2 HT3 HT4 HD1 HD2 HD3 HD4 hixa hixb
        go_wp2_with fail
        go_roundg (gk - 1)
        case measure=>have:=HGK.out;have:=HMN.out;omega
        case rel=>exact ⟨m+1,by have:=HGK.out;have:=HMN.out;show _=_;omega,by go_num,hB⟩
      · have hlt:¬ (m:Int) < (n:Int):=by omega
        have sL:=SL.out.below hB;have eL:=EachH.belowG EL.out hB;have sR:=SR.out.below hB;have eR:=EachH.belowG ER.out hB;have hb:=bend HBc.out hB;clear hmn hB SA SB QA QB
        go_wp2_with (first
         | (go_at_call 29;(with_reducible refine (cgood_any sL eL.hr NL.out (by decide) (by decide) true ⟨fun _=>HGL.out,fun _=>rfl⟩).mono ?_);rintro e w_z ⟨rfl,hh⟩
            (try replace sR:=sR.below hh);replace hb:=bend hb hh;replace eR:=EachH.belowG eR hh)
         | (go_at_call 29;(with_reducible refine (cgood_any sR eR.hr NR_.out (by decide) (by decide) true ⟨fun _=>HGR.out,fun _=>rfl⟩).mono ?_);rintro e w_z ⟨rfl,hh⟩
            replace hb:=bend hb hh)
         | (go_at_call 18;(with_reducible refine (wakes14_any _).mono ?_);rintro e w_z ⟨rfl,hh⟩
            replace hb:=bend hb hh))
        (try rw [Exit.noGoto_ret])
        go_ret;exact ⟨rfl,hb⟩
end
section
open Go Go.ChangeShapes Go.WideShapes Go.ChangeAt Go.RowKit
theorem open_rat3 {H:Type} {enc:TypeId × Value→H} {base fuel:Nat} {held:Bool} {x0 x1 x2:Value} {y:DataW H × List MemPlace}
 (h:DataW.trod enc Tryz.prog w base (fun _=>true) held fuel 26 [x0,x1,x2]=some y) :
 ∃ (q:QV) (zs ys:List Int),x0=.bool q.s∧x1=.slice q.A q.n q.c∧x2=.slice q.B q.m q.d∧IsRow64 w q.A q.n q.c zs∧IsRow64 w q.B q.m q.d ys:=by
 have e0:Tryz.prog.cellsOf 24=2:=by kernel_rfl
 have e1:Tryz.prog.cellsOf 22=1:=by kernel_rfl
 have e2:Tryz.prog.cellsOf 4=1:=by kernel_rfl
 obtain ⟨z0,z1,m,hx2,_,h2,h3⟩:=trod_struct2 Tryz.underlying26 h
 simp [e0] at h2
 simp [e1] at h3
 obtain ⟨u0,u1,k,hx4,_,h6,h7⟩:=trod_struct2 Tryz.underlying24 h2
 simp [e2] at h6
 simp [e1] at h7
 obtain ⟨b,hb,_⟩:=DataW.trod_bool Tryz.underlying4 h6
 cases hb
 obtain ⟨A1,n1,c1,zs1,rfl,r1⟩:∃ A n c zs,x1=.slice A n c∧IsRow64 w A n c zs:=by
  rcases open_ints Tryz.underlying22 Tryz.underlying140 (by kernel_rfl) h7 with ⟨hcs,_⟩ | ⟨x,l,c,zs,hcs,_,hl,hm,hz,_,hcell,hwz⟩
  · exact ⟨none,0,0,[],by cases hcs;rfl,.inl ⟨rfl,rfl,rfl,rfl⟩⟩
  · exact ⟨some x,l,c,zs,by cases hcs;rfl,.inr ⟨x,rfl,hl,hm,by simpa using hz,hcell,hwz⟩⟩
 obtain ⟨A2,n2,c2,zs2,rfl,r2⟩:∃ A n c zs,x2=.slice A n c∧IsRow64 w A n c zs:=by
  rcases open_ints Tryz.underlying22 Tryz.underlying140 (by kernel_rfl) h3 with ⟨hcs,_⟩ | ⟨x,l,c,zs,hcs,_,hl,hm,hz,_,hcell,hwz⟩
  · exact ⟨none,0,0,[],by cases hcs;rfl,.inl ⟨rfl,rfl,rfl,rfl⟩⟩
  · exact ⟨some x,l,c,zs,by cases hcs;rfl,.inr ⟨x,rfl,hl,hm,by simpa using hz,hcell,hwz⟩⟩
 exact ⟨⟨_,A1,n1,c1,A2,n2,c2⟩,zs1,zs2,rfl,rfl,rfl,r1,r2⟩
end
section
open Go Go.ChangeShapes Go.WideShapes Go.ChangeAt Go.RowKit
def QV.Raw (w:World) (q:QV):Prop:=(∃ zs,IsRow64 w q.A q.n q.c zs)∧∃ zs,IsRow64 w q.B q.m q.d zs
def HV.Raw (w:World) (p:HV):Prop:=p.x.Raw w∧p.y.Raw w∧p.w.Raw w
theorem open_hom9 {H:Type} {enc:TypeId × Value→H} {base fuel:Nat} {held:Bool} {x0 x1 x2 x3 x4 x5 x6 x7 x8:Value} {y:DataW H × List MemPlace}
 (h:DataW.trod enc Tryz.prog w base (fun _=>true) held fuel 79 [x0,x1,x2,x3,x4,x5,x6,x7,x8]=some y) :
 ∃ p:HV,x0=.bool p.x.s∧x1=.slice p.x.A p.x.n p.x.c∧x2=.slice p.x.B p.x.m p.x.d∧x3=.bool p.y.s∧x4=.slice p.y.A p.y.n p.y.c∧x5=.slice p.y.B p.y.m p.y.d∧x6=.bool p.w.s∧x7=.slice p.w.A p.w.n p.w.c∧x8=.slice p.w.B p.w.m p.w.d∧p.Raw w:=by
 have e3:Tryz.prog.cellsOf 26=3:=by kernel_rfl
 obtain ⟨xs,n,_,_,_,hlen,hi⟩:=DataW.trod_struct Tryz.underlying79 h
 match xs,hlen with
 | [y0,y1,y2],_ =>
   have h0:=hi 0 _ rfl
   simp [e3] at h0
   have h1:=hi 1 _ rfl
   simp [e3] at h1
   have h2:=hi 2 _ rfl
   simp [e3] at h2
   obtain ⟨q0,z0,s0,rfl,rfl,rfl,r0,t0⟩:=open_rat3 h0
   obtain ⟨q1,z1,s1,rfl,rfl,rfl,r1,t1⟩:=open_rat3 h1
   obtain ⟨q2,z2,s2,rfl,rfl,rfl,r2,t2⟩:=open_rat3 h2
   exact ⟨⟨q0,q1,q2⟩,rfl,rfl,rfl,rfl,rfl,rfl,rfl,rfl,rfl,⟨⟨z0,r0⟩,⟨s0,t0⟩⟩,⟨⟨z1,r1⟩,⟨s1,t1⟩⟩,⟨z2,r2⟩,⟨s2,t2⟩⟩
theorem open_zhoms {H:Type} {enc:TypeId × Value→H} {base:Nat} {held:Bool} {r:Reach} {b0:Nat} {v:Value} {d:DataW H} {p:List MemPlace}
 (hv:Value.okWide Tryz.prog w r b0 37 v) (h:DataW.Trod enc Tryz.prog w base (fun _=>true) held 37 v d p) :
 ∃ (A:Option Addr) (n c:Nat) (L:List HV),v=.slice A n c∧SV w A (hvs L)∧L.length=n∧n≤c∧n≤maxLen∧∀ q ∈ L,q.Raw w:=by
 obtain ⟨A,n,c,rfl⟩:=okWide_slice Tryz.underlying37 hv
 have e9:Tryz.prog.cellsOf 79=9:=by kernel_rfl
 obtain ⟨fuel,hf⟩:=h
 rcases DataW.trod_slice Tryz.underlying37 hf with ⟨h0,_⟩ | ⟨a,len,cap,elems,rest,m,_,h0,_,hb,hl,hm,hlen,hel,_,_⟩
 · simp [Value.cells] at h0
   obtain ⟨rfl,rfl,rfl⟩:=h0
   exact ⟨none,0,0,[],rfl,SV.nil _ _,rfl,Nat.le_refl _,Nat.zero_le _,fun q hq=>by cases hq⟩
 · simp [Value.cells] at h0
   obtain ⟨rfl,rfl,rfl⟩:=h0
   rw [e9] at hel
   have each:∀ i,i < n→∃ q:HV,(∀ j u,q.cells[j]?=some u→w.cell? ((a.add (i*9)).add j)=some u)∧q.Raw w:=by
    intro i hi
    have h1:=hel i hi
    rw [List.getElem?_eq_getElem (by rw [hlen];exact hi)] at h1
    obtain ⟨cs,hc1,hc2⟩:=Option.bind_eq_some_iff.1 h1
    unfold World.cells? at hc1
    split at hc1
    · have hcl:=mapM_some_length hc1
      have hcg:=fun k (hk:k < 9)=>mapM_some_get hc1 k k (by simp [hk])
      rw [List.length_range] at hcl
      match cs,hcl with
      | [x0,x1,x2,x3,x4,x5,x6,x7,x8],_ =>
        obtain ⟨p,rfl,rfl,rfl,rfl,rfl,rfl,rfl,rfl,rfl,r1⟩:=open_hom9 hc2
        refine ⟨p,fun j u hu=>?_,r1⟩
        have hj:j < 9:=(List.getElem?_eq_some_iff.1 hu).1
        have:=hcg j hj
        rw [this];exact hu
    · cases hc1
   obtain ⟨L,hL,hq⟩:∃ L:List HV,L.length=n∧∀ i q,L[i]?=some q→(∀ j u,q.cells[j]?=some u→w.cell? ((a.add (i*9)).add j)=some u)∧q.Raw w:=by
    have:∀ m,m≤n→∃ L:List HV,L.length=m∧∀ i q,L[i]?=some q→(∀ j u,q.cells[j]?=some u→w.cell? ((a.add (i*9)).add j)=some u)∧q.Raw w:=by
     intro m
     induction m with
     | zero=>intro _;exact ⟨[],rfl,fun i q h=>by cases h⟩
     | succ m ih =>
       intro hm
       obtain ⟨L,h1,h2⟩:=ih (by omega)
       obtain ⟨q,h3⟩:=each m (by omega)
       refine ⟨L ++ [q],by rw [List.length_append,h1];rfl,fun i x hx=>?_⟩
       rcases Nat.lt_or_ge i L.length with k | k
       · rw [List.getElem?_append_left k] at hx;exact h2 i x hx
       · rw [List.getElem?_append_right k] at hx
         have:i - L.length=0:=by
          have:=(List.getElem?_eq_some_iff.1 hx).1
          simp at this;omega
         rw [this] at hx
         cases hx
         rw [show i=m by omega];exact h3
    exact this n (Nat.le_refl _)
   refine ⟨some a,n,c,L,rfl,fun hn=>?_,hL,hl,by omega,fun q hq2=>?_⟩
   · have hn0:0 < n:=by rw [show (hvs L).length=L.length*9 from rows_length hvc_len L,hL] at hn;omega
     obtain ⟨b,o,spot⟩:=a
     have hx:=(hq 0 _ (List.getElem?_eq_getElem (by rw [hL];exact hn0))).1 0 _ rfl
     have hspot:spot=none:=by simpa [Addr.add] using World.cell?_spot hx
     subst hspot
     refine ⟨b,o,rfl,?_,fun j u hu=>?_⟩
     · rw [add_at,add_at] at hx
       exact World.block_lt_of_cell? w _ hx
     · have hj:=(List.getElem?_eq_some_iff.1 hu).1
       rw [show (hvs L).length=L.length*9 from rows_length hvc_len L,hL] at hj
       obtain ⟨i,k,hk,rfl⟩:∃ i k,k < 9∧j=i*9+k:=⟨j / 9,j % 9,Nat.mod_lt _ (by decide),by omega⟩
       have hi:i < L.length:=by omega
       have hg:=List.getElem?_eq_getElem hi
       have:=(hq i _ hg).1 k u (by rw [← rows_get hvc_len hg hk];exact hu)
       rw [add_at,add_at] at this
       rwa [← Nat.add_assoc]
   · obtain ⟨i,hi⟩:=List.getElem?_of_mem hq2
     exact (hq i q hi).2
theorem raw_qr {q:QV} {M:Nat} (h:q.Raw w) (hs:q.small M):∃ v,QR w q.s q.A q.n q.c q.B q.m q.d v M:=by
 obtain ⟨⟨_,ra⟩,⟨_,ta⟩⟩:=h
 obtain ⟨l1,a1,b1,c1,_⟩:=ra.rd
 obtain ⟨l2,a2,b2,c2,_⟩:=ta.rd
 exact ⟨_,QR.of_rd a1 b1 c1 a2 b2 c2 hs.1 hs.2⟩
theorem raw_hr {p:HV} {M:Nat} (h:p.Raw w) (hs:p.small M):∃ u,HR w p u M:=by
 obtain ⟨x,hx⟩:=raw_qr h.1 hs.1
 obtain ⟨y,hy⟩:=raw_qr h.2.1 hs.2.1
 obtain ⟨z,hz⟩:=raw_qr h.2.2 hs.2.2
 exact ⟨⟨x,y,z⟩,hx,hy,hz⟩
theorem raw_eachH {M:Nat}:∀ {L:List HV},(∀ p ∈ L,p.Raw w)→(∀ p ∈ L,p.small M)→∃ l,EachH HR w L l M
 | [],_,_=>⟨[],EachH.nil⟩
 | p :: L,h,hs=>by
   obtain ⟨u,hu⟩:=raw_hr (h p List.mem_cons_self) (hs p List.mem_cons_self)
   obtain ⟨l,hl⟩:=raw_eachH (L:=L) (fun q hq=>h q (List.mem_cons_of_mem _ hq)) (fun q hq=>hs q (List.mem_cons_of_mem _ hq))
   refine ⟨u :: l,by rw [List.length_cons,List.length_cons,hl.1],fun i q v h1 h2=>?_⟩
   match i,h1,h2 with
   | 0,h1,h2=>cases h1;cases h2;exact hu
   | i+1,h1,h2=>exact hl.2 i q v h1 h2
end
section
open Go Go.RowKit
theorem law_hwts {A:Option Addr} {n c:Nat} {L:List HV} (hL:SV w A (hvs L)) (hn:L.length=n) (hm:n≤maxLen) (hz:∀ p ∈ L,p.Raw w) :
 Calls Tryz.prog 6 #[.slice A n c] w fun e w'=>e=.returned (.bool true)∧Below w.heap.size w w':=by
 by_cases hs:(∀ p ∈ L,p.small 4)∧n≤6
 · obtain ⟨V,hE⟩:=raw_eachH hz hs.1
   by_cases hg:GoodH V
   · exact hwts_p hL hn hE hs hg
   · exact hwts_g hL hn hE hs hg
 · exact hwts_f hL hn hm hs
end
end Go.Proofs.YtfpaeophfcoohaaGreat
