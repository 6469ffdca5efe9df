/- FlatNear: part 10. -/
import Derived.Deep.Cut
import Derived.Deep.CutRange
import Derived.Test.YtlpogecpdfdggaaGreatKFlatNear6
import Derived.Test.YtlpogecpdfdggaaGreatKFlatNear7
import Derived.Test.YtlpogecpdfdggaaGreatKFlatNear8
import Derived.Test.YtlpogecpdfdggaaGreatKFlatNear9
set_option linter.unusedVariables false
set_option maxRecDepth 100000
set_option maxHeartbeats 16000000
variable {w:Go.World}
variable {s_p t_p:Bool} {A_p B_p E_p F_p:Option Go.Addr} {n_p c_p m_p d_p i_p e_p j_p f_p:Nat}
namespace Go.Proofs.YtlpogecpdfdggaaGreat
section
open Go Go.RowKit
structure BoxOp where
 ia:Nat
 is:Nat
 tA:Nat
 T:TypeId
 zs:Array Value
 Fst:Array Value→World→Prop
structure JFlows (ops:Array Oper) (w0:World) (L:List BoxOp) (F:Nat→Value→World→Prop) (D:Nat→Bool) (v:Nat→Value) (w':World):Prop where
 below:Below w0.heap.size w0 w'
 vals:∀ (i:Nat) (o:Oper) (t:Nat),ops[i]?=some o→o.dst=some t→(∀ p ∈ L,t ≠ p.tA)→D i=true→F t (v t) w'
 box:∀ p ∈ L,D p.ia=true→∃ g cs,v p.tA=.pointer (some ⟨g,0,none⟩)∧w0.heap.size≤g∧BoxAt p.T w' g cs∧(D p.is=true→p.Fst cs w')∧(D p.is=false→cs=p.zs)
 after:∀ p ∈ L,D p.is=true→D p.ia=true
 apart:∀ p ∈ L,∀ q ∈ L,p.tA ≠ q.tA→D p.ia=true→D q.ia=true→v p.tA ≠ v q.tA
section
variable {P:Program} {ops:Array Oper} {Q:Exit→Act→World→Prop}
structure BoxIn (P:Program) (ops:Array Oper) (p:BoxOp):Prop where
 alloc:∃ oa,ops[p.ia]?=some oa∧oa.dst=some p.tA∧oa.guard=none∧∀ (e:Operand→Value) (w':World),(execOp e oa).run P w'=.ok (.value (.pointer (some ⟨w'.heap.size,0,none⟩))) (w'.alloc (.cells p.zs p.T))
 fill:∃ os,ops[p.is]?=some os∧os.dst=none∧os.guard=none∧∃ e ∈ os.after,Region.binds .any e=true∧e.on=p.ia
 free:∀ (i:Nat) (k:IntKind) (x:Int),p.zs[i]? ≠ some (Value.int k x)
 stays:∀ cs w w',p.Fst cs w→Below w.heap.size w w'→p.Fst cs w'
 stays2:∀ (T:TypeId) cs w w' g c0,p.Fst cs w→BoxAt T w g c0→Only g w w'→p.Fst cs w'
theorem wp_region_flows {id:Nat} {a:Act} {w0:World} (l:List Nat) (L:List BoxOp) (F:Nat→Value→World→Prop)
 (hm:P.follows .mixedOrders=true) (hb:backB ops=true) (hl:ops.toList.filterMap (·.dst)=l) (hn:l.Nodup)
 (hL:∀ p ∈ L,BoxIn P ops p) (hT:∀ p ∈ L,∀ q ∈ L,p.tA=q.tA→p=q) (hS:∀ p ∈ L,∀ q ∈ L,p.is=q.is→p=q)
 (hone:∀ (i:Nat) (o:Oper),ops[i]?=some o→o.dst=none→∃ p ∈ L,p.is=i) (hst:∀ t,Stays (F t))
 (hval:∀ (i:Nat) (o:Oper) (t:Nat) (v:Nat→Value) (w':World),ops[i]?=some o→(∀ p ∈ L,t ≠ p.tA)→o.dst=some t→Below w0.heap.size w0 w' →
  (∀ e ∈ o.after,Region.binds .any e=true→∀ (oe:Oper) (te:Nat),ops[e.on]?=some oe→oe.dst=some te→(∀ p ∈ L,te ≠ p.tA)→F te (v te) w') →
  wpOp P ops Q i (fun a'' w''=>∃ x,a''=(putAll a l v).put (some t) x∧Below w'.heap.size w' w''∧F t x w'') (putAll a l v) w')
 (hstore:∀ p ∈ L,∀ (os:Oper) (v:Nat→Value) (w':World) (g:Nat),ops[p.is]?=some os→Below w0.heap.size w0 w'→v p.tA=.pointer (some ⟨g,0,none⟩)→BoxAt p.T w' g p.zs →
  (∀ e ∈ os.after,Region.binds .any e=true→∀ (oe:Oper) (te:Nat),ops[e.on]?=some oe→oe.dst=some te→(∀ p ∈ L,te ≠ p.tA)→F te (v te) w') →
  os.wp P (putAll a l v) w' (fun a'' w''=>a''=putAll a l v∧Only g w' w''∧∃ cs',BoxAt p.T w'' g cs'∧p.Fst cs' w'') Q)
 (hend:∀ (v:Nat→Value) (w':World),Below w0.heap.size w0 w'→(∀ (i:Nat) (o:Oper) (t:Nat),ops[i]?=some o→o.dst=some t→(∀ p ∈ L,t ≠ p.tA)→F t (v t) w') →
  (∀ p ∈ L,∃ g cs,v p.tA=.pointer (some ⟨g,0,none⟩)∧w0.heap.size≤g∧BoxAt p.T w' g cs∧p.Fst cs w')→(∀ p ∈ L,∀ q ∈ L,p.tA ≠ q.tA→v p.tA ≠ v q.tA)→Q .normal (putAll a l v) w') :
 (Code.region id ops true).wp P Q a w0:=by
 have lt_of:∀ {i:Nat} {o:Oper},ops[i]?=some o→i < ops.size:=fun {i o} h=>by
  rcases Nat.lt_or_ge i ops.size with k | k
  · exact k
  · rw [Array.getElem?_eq_none k] at h;cases h
 have hmem:∀ {i:Nat} {o:Oper} {t:Nat},ops[i]?=some o→o.dst=some t→t ∈ l:=fun {i o t} h d=>by
  rw [← hl];exact List.mem_filterMap.2 ⟨o,List.mem_of_getElem? (by simpa using h),d⟩
 have hinj:∀ {i j:Nat} {oi oj:Oper} {t:Nat},ops[i]?=some oi→ops[j]?=some oj→oi.dst=some t→oj.dst=some t→i=j:=fun {i j oi oj t} h1 h2 d1 d2 =>
  once_of (l:=ops.toList) (by rw [hl];exact hn) (by simpa using h1) (by simpa using h2) d1 d2
 -- a filling operation is no making one,and none that tells a value
 have his:∀ p ∈ L,∀ (i:Nat) (o:Oper) (t:Nat),ops[i]?=some o→o.dst=some t→p.is ≠ i:=by
  intro p hp i o t ho ht q
  obtain ⟨os,h1,h2,_⟩:=(hL p hp).fill
  subst q
  rw [h1] at ho
  cases ho
  rw [h2] at ht
  cases ht
 refine wp_region_inv l (JFlows ops w0 L F) hm hb ?_ ?_ ?_ ?_
 · refine ⟨(Below.refl _ _).drew,?_,?_,?_,?_⟩
   · intro i o t _ _ _ h;exact absurd (show false=true from h) (by decide)
   · intro p _ h;exact absurd (show false=true from h) (by decide)
   · intro p _ h;exact absurd (show false=true from h) (by decide)
   · intro p _ q _ _ h;exact absurd (show false=true from h) (by decide)
 · intro D D' v w hD h
   have ea:∀ p ∈ L,D p.ia=D' p.ia:=fun p hp=>by obtain ⟨oa,h1,_⟩:=(hL p hp).alloc;exact hD _ (lt_of h1)
   have es:∀ p ∈ L,D p.is=D' p.is:=fun p hp=>by obtain ⟨os,h1,_⟩:=(hL p hp).fill;exact hD _ (lt_of h1)
   refine ⟨h.below,fun i o t hi ht hne hd=>h.vals i o t hi ht hne (by rw [hD i (lt_of hi)];exact hd),?_,?_,?_⟩
   · intro p hp;rw [← ea p hp,← es p hp];exact h.box p hp
   · intro p hp;rw [← ea p hp,← es p hp];exact h.after p hp
   · intro p hp q hq;rw [← ea p hp,← ea q hq];exact h.apart p hp q hq
 · intro i o D v w' ho hDi hall J
   cases hd:o.dst with
   | none =>
     obtain ⟨p,hp,rfl⟩:=hone i o ho hd
     obtain ⟨os,h1,h2,hgs,e,he,hbd,hon⟩:=(hL p hp).fill
     rw [h1] at ho
     cases ho
     have hDa:D p.ia=true:=by rw [← hon];exact hall e he hbd
     obtain ⟨g,cs,p1,p2,p3,_,pz⟩:=J.box p hp hDa
     obtain rfl:=pz hDi
     refine wpOp_plain' h1 hgs ?_
     refine Oper.wp_mono ?_ (hstore p hp _ v w' g h1 J.below p1 p3 (fun e he hb' oe te h1 h2 h3=>J.vals e.on oe te h1 h2 h3 (hall e he hb')))
     rintro a'' w'' ⟨rfl,ho2,cs',hB,hF⟩
     have nia:∀ q ∈ L,q.ia ≠ p.is:=fun q hq k=>by
      obtain ⟨oa,k1,k2,_⟩:=(hL q hq).alloc
      exact his p hp q.ia oa q.tA k1 k2 k.symm
     refine ⟨v,rfl,Below.only J.below p2 J.below.size ho2,?_,?_,?_,?_⟩
     · intro j oj t hj ht hne hd2
       have hji:j ≠ p.is:=fun q=>his p hp j oj t hj ht q.symm
       rw [upd_ne _ _ hji] at hd2
       exact (hst t).2 _ _ _ _ _ _ (J.vals j oj t hj ht hne hd2) p3 ho2
     · intro q hq hDq
       rw [upd_ne _ _ (nia q hq)] at hDq
       by_cases hpq:q.tA=p.tA
       · obtain rfl:=hT q hq p hp hpq
         exact ⟨g,cs',p1,p2,hB,fun _=>hF,fun k=>by rw [upd_same] at k;cases k⟩
       · obtain ⟨g2,cs2,r1,r2,r3,r4,r5⟩:=J.box q hq hDq
         have hgg:g2 ≠ g:=fun k=>J.apart q hq p hp hpq hDq hDa (by rw [r1,p1,k])
         have hss:q.is ≠ p.is:=fun k=>hpq (by rw [hS q hq p hp k])
         refine ⟨g2,cs2,r1,r2,⟨(ho2.block g2 r3.lt hgg).trans r3.at_,r3.free⟩,fun k=>?_,fun k=>?_⟩
         · rw [upd_ne _ _ hss] at k
           exact (hL q hq).stays2 _ _ _ _ _ _ (r4 k) p3 ho2
         · rw [upd_ne _ _ hss] at k
           exact r5 k
     · intro q hq k
       rw [upd_ne _ _ (nia q hq)]
       by_cases hss:q.is=p.is
       · obtain rfl:=hS q hq p hp hss
         exact hDa
       · rw [upd_ne _ _ hss] at k
         exact J.after q hq k
     · intro q hq r hr hne k1 k2
       rw [upd_ne _ _ (nia q hq)] at k1
       rw [upd_ne _ _ (nia r hr)] at k2
       exact J.apart q hq r hr hne k1 k2
   | some t =>
     have nis:∀ q ∈ L,q.is ≠ i:=fun q hq=>his q hq i o t ho hd
     by_cases hA:∃ p ∈ L,t=p.tA
     · obtain ⟨p,hp,rfl⟩:=hA
       obtain ⟨oa,h1,h2,hga,halloc⟩:=(hL p hp).alloc
       have hii:i=p.ia:=hinj ho h1 hd h2
       subst hii
       rw [h1] at ho
       cases ho
       refine wpOp_plain' h1 hga ?_
       unfold Oper.wp
       rw [halloc,Oper.upon_value,h2]
       have hbl:=(Below.refl w'.heap.size w').alloc (Nat.le_refl _) (.cells p.zs p.T)
       have hnew:∀ q ∈ L,q.tA ≠ p.tA→q.ia ≠ p.ia:=fun q hq k r=>by
        obtain ⟨ob,k1,k2,_⟩:=(hL q hq).alloc
        rw [r,h1] at k1
        cases k1
        rw [h2] at k2
        exact k (Option.some.inj k2).symm
       refine ⟨_,putAll_put _ _ _ _ _ hn (hmem h1 h2),J.below.trans (hbl.mono J.below.size),?_,?_,?_,?_⟩
       · intro j oj t hj ht hne hd2
         have htp:=hne p hp
         have hji:j ≠ p.ia:=fun q=>htp (by subst q;rw [h1] at hj;cases hj;rw [h2] at ht;cases ht;rfl)
         rw [upd_ne _ _ hji] at hd2;rw [upd_ne _ _ htp]
         exact (hst t).1 _ _ _ (J.vals j oj t hj ht hne hd2) hbl
       · intro q hq hDq
         by_cases hqp:q.tA=p.tA
         · obtain rfl:=hT q hq p hp hqp
           refine ⟨w'.heap.size,q.zs,upd_same _ _ _,J.below.size,⟨heap_alloc_new _ _,(hL q hq).free⟩,fun h=>?_,fun _=>rfl⟩
           rw [upd_ne _ _ (nis q hq)] at h
           have:=J.after q hq h
           rw [hDi] at this
           cases this
         · rw [upd_ne _ _ (hnew q hq hqp)] at hDq
           obtain ⟨g,cs,r1,r2,r3,r4,r5⟩:=J.box q hq hDq
           refine ⟨g,cs,by rw [upd_ne _ _ hqp];exact r1,r2,r3.below hbl,fun h=>?_,fun h=>?_⟩
           · rw [upd_ne _ _ (nis q hq)] at h
             exact (hL q hq).stays _ _ _ (r4 h) hbl
           · rw [upd_ne _ _ (nis q hq)] at h
             exact r5 h
       · intro q hq h
         rw [upd_ne _ _ (nis q hq)] at h
         by_cases hqp:q.tA=p.tA
         · obtain rfl:=hT q hq p hp hqp
           rw [upd_same]
         · rw [upd_ne _ _ (hnew q hq hqp)]
           exact J.after q hq h
       · intro q hq r hr hne k1 k2
         by_cases hqp:q.tA=p.tA
         · obtain rfl:=hT q hq p hp hqp
           have hrp:r.tA ≠ q.tA:=Ne.symm hne
           rw [upd_ne _ _ (hnew r hr hrp)] at k2
           obtain ⟨g,cs,r1,_,r3,_⟩:=J.box r hr k2
           rw [upd_same,upd_ne _ _ hrp,r1]
           intro k
           simp only [Value.pointer.injEq,Option.some.injEq,Addr.mk.injEq] at k
           have:=r3.lt
           omega
         · rw [upd_ne _ _ (hnew q hq hqp)] at k1
           by_cases hrp:r.tA=p.tA
           · obtain rfl:=hT r hr p hp hrp
             obtain ⟨g,cs,r1,_,r3,_⟩:=J.box q hq k1
             rw [upd_same,upd_ne _ _ hqp,r1]
             intro k
             simp only [Value.pointer.injEq,Option.some.injEq,Addr.mk.injEq] at k
             have:=r3.lt
             omega
           · rw [upd_ne _ _ (hnew r hr hrp)] at k2
             rw [upd_ne _ _ hqp,upd_ne _ _ hrp]
             exact J.apart q hq r hr hne k1 k2
     · have htA:∀ p ∈ L,t ≠ p.tA:=fun p hp k=>hA ⟨p,hp,k⟩
       have nia:∀ q ∈ L,q.ia ≠ i:=fun q hq k=>by
        obtain ⟨oa,k1,k2,_⟩:=(hL q hq).alloc
        rw [k,ho] at k1
        cases k1
        rw [hd] at k2
        cases k2
        exact htA q hq rfl
       refine wpOp_mono ?_ (hval i o t v w' ho htA hd J.below (fun e he hb' oe te h1 h2 h3=>J.vals e.on oe te h1 h2 h3 (hall e he hb')))
       rintro a'' w'' ⟨x,rfl,hbl,hF⟩
       refine ⟨_,putAll_put _ _ _ _ _ hn (hmem ho hd),J.below.trans (hbl.mono J.below.size),?_,?_,?_,?_⟩
       · intro j oj t' hj ht hne hd2
         by_cases hji:j=i
         · subst hji
           rw [ho] at hj
           cases hj
           rw [hd] at ht
           cases ht
           rw [upd_same]
           exact hF
         · rw [upd_ne _ _ hji] at hd2
           have htt:t' ≠ t:=fun q=>hji (by subst q;exact hinj hj ho ht hd)
           rw [upd_ne _ _ htt]
           exact (hst t').1 _ _ _ (J.vals j oj t' hj ht hne hd2) hbl
       · intro q hq hDq
         rw [upd_ne _ _ (nia q hq)] at hDq
         obtain ⟨g,cs,r1,r2,r3,r4,r5⟩:=J.box q hq hDq
         refine ⟨g,cs,by rw [upd_ne _ _ (Ne.symm (htA q hq))];exact r1,r2,r3.below hbl,fun h=>?_,fun h=>?_⟩
         · rw [upd_ne _ _ (nis q hq)] at h
           exact (hL q hq).stays _ _ _ (r4 h) hbl
         · rw [upd_ne _ _ (nis q hq)] at h
           exact r5 h
       · intro q hq h
         rw [upd_ne _ _ (nis q hq)] at h
         rw [upd_ne _ _ (nia q hq)]
         exact J.after q hq h
       · intro q hq r hr hne k1 k2
         rw [upd_ne _ _ (nia q hq)] at k1
         rw [upd_ne _ _ (nia r hr)] at k2
         rw [upd_ne _ _ (Ne.symm (htA q hq)),upd_ne _ _ (Ne.symm (htA r hr))]
         exact J.apart q hq r hr hne k1 k2
 · intro D v w' hall J
   refine hend v w' J.below (fun i o t hi ht hne=>J.vals i o t hi ht hne (hall i (lt_of hi))) ?_ ?_
   · intro p hp
     obtain ⟨oa,h1,_⟩:=(hL p hp).alloc
     obtain ⟨os,h2,_⟩:=(hL p hp).fill
     obtain ⟨g,cs,r1,r2,r3,r4,_⟩:=J.box p hp (hall _ (lt_of h1))
     exact ⟨g,cs,r1,r2,r3,r4 (hall _ (lt_of h2))⟩
   · intro p hp q hq hne
     obtain ⟨oa,h1,_⟩:=(hL p hp).alloc
     obtain ⟨ob,h2,_⟩:=(hL q hq).alloc
     exact J.apart p hp q hq hne (hall _ (lt_of h1)) (hall _ (lt_of h2))
end
end
section
open Go Go.RowKit
def B3R (W:World) (g:Nat) (x y z:Value):Prop:=W.heap[g]?=some (.cells #[x,y,z] 43 (0,0))
section
variable {W W':World} {g:Nat} {x y z:Value}
theorem B3R.c0 (h:B3R W g x y z):W.cell? ⟨g,0,none⟩=some x:=by rw [cell_of_row W g 0 _ _ (0,0) h];rfl
theorem B3R.c1 (h:B3R W g x y z):W.cell? ⟨g,1,none⟩=some y:=by rw [cell_of_row W g 1 _ _ (0,0) h];rfl
theorem B3R.c2 (h:B3R W g x y z):W.cell? ⟨g,2,none⟩=some z:=by rw [cell_of_row W g 2 _ _ (0,0) h];rfl
theorem B3R.all (h:B3R W g x y z):W.cell? ⟨g,0,none⟩=some x∧W.cell? ⟨g,1,none⟩=some y∧W.cell? ⟨g,2,none⟩=some z:=⟨h.c0,h.c1,h.c2⟩
theorem B3R.f0 (h:B3R W g x y z):W.frozen? ⟨g,0,none⟩=false:=frozen_of_row W g 0 _ _ h
theorem B3R.f1 (h:B3R W g x y z):W.frozen? ⟨g,1,none⟩=false:=frozen_of_row W g 1 _ _ h
theorem B3R.f2 (h:B3R W g x y z):W.frozen? ⟨g,2,none⟩=false:=frozen_of_row W g 2 _ _ h
theorem B3R.lt (h:B3R W g x y z):g < W.heap.size:=World.block_lt_of_cell? W _ h.c0
theorem B3R.below (h:B3R W g x y z) (hb:Below W.heap.size W W'):B3R W' g x y z:=(hb.block g h.lt).trans h
theorem B3R.alloc (h:B3R W g x y z) (o:Obj):B3R (W.alloc o) g x y z:=(Below.heap_alloc W o g h.lt).trans h
theorem B3R.new' (W:World) (x y z:Value) (g:Nat) (hg:g=W.heap.size):B3R (W.alloc (.cells #[x,y,z] 43)) g x y z:=by subst hg;exact heap_alloc_new W _
theorem B3R.set3 (h:B3R W g x y z) (a b c:Value):B3R (((W.setCell ⟨g,0,none⟩ a).setCell ⟨g,1,none⟩ b).setCell ⟨g,2,none⟩ c) g a b c:=by
 unfold B3R at h ⊢
 simp [World.setCell,Array.getElem?_modify,h]
theorem B3R.offx {s:Bool} {A A1 A2:Option Addr} {n n1 n2 c1 c2:Nat} {K:IntKind} {l:List Nat} (h:B3R W g (.bool s) (.slice A1 n1 c1) (.slice A2 n2 c2)) (hr:Rd K W A n l):Off A n g:=by
 intro hn ad e hg
 obtain ⟨b,o,eA,hc⟩:=hr.at_ hn
 obtain ⟨x,_,hx⟩:=hc 0 hn
 rw [eA] at e
 cases e
 have hg2:b=g:=hg
 subst hg2
 rw [cell_of_row W b (o+0) _ _ (0,0) h] at hx
 match o,hx with
 | 0,hx=>cases hx
 | 1,hx=>cases hx
 | 2,hx=>cases hx
 | o+3,hx=>cases hx
end
def RQ (w:World) (s:Bool) (A:Option Addr) (n c:Nat) (A':Option Addr) (n' c':Nat) (v:Rat) (k:Nat):Prop:=RG w s A n c v.num k∧RN w A' n' c' v.den k
def GivesRQ (w:World) (v:Rat) (k:Nat) (e:Ending) (w':World):Prop :=
 ∃ s A n c A' n' c',e=.returned (.agg #[.bool s,.slice A n c,.slice A' n' c'])∧RQ w' s A n c A' n' c' v k∧Below w.heap.size w w'
section
variable {w w':World} {s:Bool} {A A':Option Addr} {n c n' c' k g:Nat} {v:Rat}
theorem RQ.below (h:RQ w s A n c A' n' c' v k) (hb:Below w.heap.size w w'):RQ w' s A n c A' n' c' v k:=⟨h.1.below hb,h.2.below hb⟩
theorem RN.only {V:Nat} (h:RN w A n c V k) (ho:Off A n g) (hb:Only g w w'):RN w' A n c V k:=⟨h.1.only ho hb,h.2⟩
theorem RG.only {V:Int} (h:RG w s A n c V k) (ho:Off A n g) (hb:Only g w w'):RG w' s A n c V k:=⟨h.1,h.2.only ho hb⟩
theorem RG.rn {V:Int} (h:RG w s A n c V k):RN w A n c V.natAbs k:=h.2
theorem RG.more {V:Int} {k1:Nat} (h:RG w s A n c V k) (hk:k≤k1):RG w s A n c V k1:=⟨h.1,h.2.more hk⟩
theorem RQ.set3 {t:Bool} {A1 A2:Option Addr} {n1 c1 n2 c2:Nat} (h:RQ w s A n c A' n' c' v k) (Z:B3R w g (.bool t) (.slice A1 n1 c1) (.slice A2 n2 c2)) (x y z:Value) :
 RQ (((w.setCell ⟨g,0,none⟩ x).setCell ⟨g,1,none⟩ y).setCell ⟨g,2,none⟩ z) s A n c A' n' c' v k:=by
 have ho:Only g w (((w.setCell ⟨g,0,none⟩ x).setCell ⟨g,1,none⟩ y).setCell ⟨g,2,none⟩ z):=(((Only.refl g w).setCell 0 _).setCell 1 _).setCell 2 _
 exact ⟨h.1.only (Z.offx h.1.2.1) ho,h.2.only (Z.offx h.2.1) ho⟩
end
theorem mkRat_num {p:Int} {q:Nat} (hq:q ≠ 0):(mkRat p q).num.natAbs=p.natAbs / Nat.gcd p.natAbs q∧(mkRat p q).den=q / Nat.gcd p.natAbs q∧((mkRat p q).num < 0 ↔ p < 0):=by
 have h0:(q:Int) ≠ 0:=by omega
 have h1:=div_num (p:=p) h0
 have h2:=div_den (p:=p) h0
 rw [Rat.divInt_ofNat] at h1 h2
 simp only [Int.natAbs_natCast] at h1 h2
 exact ⟨h1,h2,by rw [num_neg_iff,mk_negv hq]⟩
theorem mkbx21_10 {w W:World} {x0 x1 x2 x3 x4:Value} (h:((w.alloc (Obj.cells #[x0,x1] 41)).alloc (Obj.cells #[x2,x3,x4] 43))=W):Below w.heap.size w W∧By W (w.heap.size) x0 x1∧B3R W (w.heap.size+1) x2 x3 x4∧W.heap.size=w.heap.size+2:=by subst h;exact ⟨by exact (((Below.refl _ _).alloc (Nat.le_refl _) _).alloc (by simp) _),by exact (By.new' _ _ _ _ rfl).alloc _,by exact B3R.new' _ _ _ _ _ (by simp),by simp⟩
theorem made_one {s:Bool} {A B:Option Addr} {n c m d k q:Nat} {p:Int} (X:RG w s A n c p k) (Y:RN w B m d q k) (hk:k≤100000) (hq:q ≠ 0) (hg:Nat.gcd p.natAbs q=1) :
 Calls Tryz.prog 36 #[.agg #[.bool s,.slice A n c],.slice B m d] w (GivesRQ w (mkRat p q) k):=by
 have HG:=Lib.hid hg
 have hm:=mkRat_num (p:=p) hq
 rw [hg,Nat.div_one,Nat.div_one] at hm
 have HM:=Lib.hid hm;clear hg hm
 go_enter Tryz.func36,Tryz.ntmps36
 go_wp2_with fail
 generalize hW:World.alloc _ _=W
 obtain ⟨hb,XP,Z,hzW⟩:=mkbx21_10 hW;clear hW;replace X:=X.below hb;replace Y:=Y.below hb;obtain ⟨xp0,xp1⟩:=XP.all
 go_upto_region 2 with (first
  | (go_at_call 74;(with_reducible refine (rgcd_nr X.rn Y (by omega)).mono ?_);rintro e w_g ⟨A_g,n_g,c_g,rfl,g,hh⟩
     rw [HG.out] at g;(try replace X:=X.below hh);(try replace Y:=Y.below hh);(try replace x:=x.below hh);(try replace y:=y.below hh);(try replace XP:=XP.below hh);(try replace Z:=Z.below hh);replace hb:=bend hb hh;obtain ⟨xp0,xp1⟩:=XP.all))
 have hl:limbs B32 1=[1]:=limbs_small B32_two (by decide) (by decide)
 have hg1:=g.1;rw [hl] at hg1
 have hn:1=n_g:=hg1.1
 subst hn
 obtain ⟨gb,go,rfl,hgc⟩:=hg1.at_ (by decide)
 obtain ⟨gx,hgx,hgc0⟩:=hgc 0 (by decide)
 have hgx1:1=gx:=by simpa using hgx
 subst hgx1
 have hc1:w_g.cell? ⟨gb,go,none⟩=some (.int .u32 1):=by simpa using hgc0
 clear hgc hgx hgc0 hg1 hl g;have zf0:=Z.f0;have zf1:=Z.f1;have zf2:=Z.f2;obtain ⟨z0,z1,z2⟩:=Z.all
 go_wp2_with fail
 have Z2:=Z.set3 (.bool s) (.slice A n c) (.slice B m d)
 obtain ⟨g0,g1,g2⟩:=Z2.all
 refine bodyPost_ret (v:=.agg #[.bool s,.slice A n c,.slice B m d]) (by simp [results,Tryz.results36,go_sem,g0,g1,g2]) rfl ?_
 have hm:=HM.out
 have hr:RQ w_g s A n c B m d (mkRat p q) k:=⟨⟨X.1.trans (by rw [decide_eq_decide];exact hm.2.2.symm),by rw [hm.1];exact X.rn⟩,by rw [hm.2.1];exact Y⟩
 exact ⟨s,_,_,_,_,_,_,rfl,hr.set3 Z _ _ _,below_set3 hb (by omega) _ _ _⟩
theorem made_big {s:Bool} {A B:Option Addr} {n c m d k q G:Nat} {p:Int} (X:RG w s A n c p k) (Y:RN w B m d q k) (hk:k≤100000) (hq:q ≠ 0) (hg:Nat.gcd p.natAbs q=G) (hG:B32≤G) :
 Calls Tryz.prog 36 #[.agg #[.bool s,.slice A n c],.slice B m d] w (GivesRQ w (mkRat p q) k):=by
 have HG:=Lib.hid hg
 have HG0:Hid (G ≠ 0):=by
  show G ≠ 0
  have:=Nat.gcd_pos_of_pos_right p.natAbs (Nat.pos_of_ne_zero hq)
  omega
 have hm:=mkRat_num (p:=p) hq
 rw [hg] at hm;have HM:=Lib.hid hm;clear hg hm
 go_enter Tryz.func36,Tryz.ntmps36
 go_wp2_with fail
 generalize hW:World.alloc _ _=W
 obtain ⟨hb,XP,Z,hzW⟩:=mkbx21_10 hW;clear hW;replace X:=X.below hb;replace Y:=Y.below hb;obtain ⟨xp0,xp1⟩:=XP.all
 go_upto_region 2 with (first
  | (go_at_call 74;(with_reducible refine (rgcd_nr X.rn Y (by omega)).mono ?_);rintro e w_g ⟨A_g,n_g,c_g,rfl,g,hh⟩
     rw [HG.out] at g;(try replace X:=X.below hh);(try replace Y:=Y.below hh);(try replace x:=x.below hh);(try replace y:=y.below hh);(try replace XP:=XP.below hh);(try replace Z:=Z.below hh);replace hb:=bend hb hh;obtain ⟨xp0,xp1⟩:=XP.all))
 have hng:2≤n_g:=by
  rcases Nat.lt_or_ge n_g 2 with h | h
  · have h1:=val_lt (lim_limbs B32_two G)
    rw [val_limbs B32_two,g.1.1] at h1
    have h2:B32 ^ n_g≤B32 ^ 1:=Nat.pow_le_pow_right (by decide) (by omega)
    rw [Nat.pow_one] at h2
    omega
  · exact h
 have hn0:((n_g:Int) == 0)=false:=by simp;omega
 have hn1:((n_g:Int) == 1)=false:=by simp;omega
 clear hng hG
 have hfd:∀ (A:Option Addr) (n c:Nat) (A':Option Addr) (n' c':Nat) (w:World),(Instr.field 117 (.agg #[.slice A n c,.slice A' n' c']) 0).run Tryz.prog w=.ok (.slice A n c) w:=fun _ _ _ _ _ _ _=>by kernel_rfl
 go_upto_region 4 with (fail)
 replace X:=X.below (Below.refl _ _).drew
 replace Y:=Y.below (Below.refl _ _).drew
 replace g:=g.below (Below.refl _ _).drew
 replace XP:=XP.below (Below.refl _ _).drew
 replace Z:=Z.below (Below.refl _ _).drew
 replace hb:=hb.drew
 go_region_held3 (fun w'=>w'.cell? ⟨w.heap.size,0,none⟩=some (.bool s)∧w'.cell? ⟨w.heap.size,1,none⟩=some (.slice A n c))
  (first | with_reducible exact ⟨XP.c0,XP.c1⟩ | with_reducible exact ⟨(set3_cell _ _ _ _ _ _ _ (by omega)).trans XP.c0,(set3_cell _ _ _ _ _ _ _ (by omega)).trans XP.c1⟩)
  (first
  | (go_at_call 75;(with_reducible refine (rdm_nr X.rn g (by omega) (by omega) HG0.out).mono ?_);rintro e w_x ⟨A_x,n_x,c_x,A_r,n_r,c_r,rfl,x,xr,hh⟩
     (try replace X:=X.below hh);(try replace Y:=Y.below hh);(try replace g:=g.below hh);(try replace y:=y.below hh);(try replace XP:=XP.below hh);(try replace Z:=Z.below hh);replace hb:=bend hb hh;have zf0:=Z.f0;have zf1:=Z.f1;have zf2:=Z.f2;obtain ⟨z0,z1,z2⟩:=Z.all)
  | (go_at_call 75;(with_reducible refine (rdm_nr Y g (by omega) (by omega) HG0.out).mono ?_);rintro e w_y ⟨A_y,n_y,c_y,A_t,n_t,c_t,rfl,y,yr,hh⟩
     (try replace X:=X.below hh);(try replace Y:=Y.below hh);(try replace g:=g.below hh);(try replace x:=x.below hh);(try replace XP:=XP.below hh);(try replace Z:=Z.below hh);replace hb:=bend hb hh;have zf0:=Z.f0;have zf1:=Z.f1;have zf2:=Z.f2;obtain ⟨z0,z1,z2⟩:=Z.all))
 go_wp2_with fail
 have Z2:=Z.set3 (.bool s) (.slice A_x n_x c_x) (.slice A_y n_y c_y)
 obtain ⟨g0,g1,g2⟩:=Z2.all
 refine bodyPost_ret (v:=.agg #[.bool s,.slice A_x n_x c_x,.slice A_y n_y c_y]) (by simp [results,Tryz.results36,go_sem,g0,g1,g2]) rfl ?_
 have hm:=HM.out
 have hr:RQ w_y s A_x n_x c_x A_y n_y c_y (mkRat p q) k:=⟨⟨X.1.trans (by rw [decide_eq_decide];exact hm.2.2.symm),by rw [hm.1];exact x⟩,by rw [hm.2.1];exact y⟩
 exact ⟨s,_,_,_,_,_,_,rfl,hr.set3 Z _ _ _,below_set3 hb (by omega) _ _ _⟩
theorem made_small {s:Bool} {A B:Option Addr} {n c m d k q G:Nat} {p:Int} (X:RG w s A n c p k) (Y:RN w B m d q k) (hk:k≤100000) (hq:q ≠ 0) (hg:Nat.gcd p.natAbs q=G) (hG:G < B32) (hG1:G ≠ 1) :
 Calls Tryz.prog 36 #[.agg #[.bool s,.slice A n c],.slice B m d] w (GivesRQ w (mkRat p q) k):=by
 have HG:=Lib.hid hg
 have HG0:Hid (G ≠ 0):=by
  show G ≠ 0
  have:=Nat.gcd_pos_of_pos_right p.natAbs (Nat.pos_of_ne_zero hq)
  omega
 have hm:=mkRat_num (p:=p) hq
 rw [hg] at hm;have HM:=Lib.hid hm;clear hg hm
 go_enter Tryz.func36,Tryz.ntmps36
 go_wp2_with fail
 generalize hW:World.alloc _ _=W
 obtain ⟨hb,XP,Z,hzW⟩:=mkbx21_10 hW;clear hW;replace X:=X.below hb;replace Y:=Y.below hb;obtain ⟨xp0,xp1⟩:=XP.all
 go_upto_region 2 with (first
  | (go_at_call 74;(with_reducible refine (rgcd_nr X.rn Y (by omega)).mono ?_);rintro e w_g ⟨A_g,n_g,c_g,rfl,g,hh⟩
     rw [HG.out] at g;(try replace X:=X.below hh);(try replace Y:=Y.below hh);(try replace x:=x.below hh);(try replace y:=y.below hh);(try replace XP:=XP.below hh);(try replace Z:=Z.below hh);replace hb:=bend hb hh;obtain ⟨xp0,xp1⟩:=XP.all))
 have hl:limbs B32 G=[G]:=limbs_small B32_two hG HG0.out
 have hg1:=g.1;rw [hl] at hg1
 have hn:1=n_g:=hg1.1
 subst hn
 obtain ⟨gb,go,eA,hgc⟩:=hg1.at_ (by decide)
 subst eA
 obtain ⟨gx,hgx,hgc0⟩:=hgc 0 (by decide)
 have hgx1:G=gx:=by simpa using hgx
 subst hgx1
 have hc1:w_g.cell? ⟨gb,go,none⟩=some (.int .u32 (G:Int)):=by simpa using hgc0
 have hG2:((G:Int) == 1)=false:=by simp;omega
 clear hgc hgx hgc0 hg1 hl hG hG1
 have hfd:∀ (A:Option Addr) (n c:Nat) (A':Option Addr) (n' c':Nat) (w:World),(Instr.field 117 (.agg #[.slice A n c,.slice A' n' c']) 0).run Tryz.prog w=.ok (.slice A n c) w:=fun _ _ _ _ _ _ _=>by kernel_rfl
 go_upto_region 4 with (fail)
 replace X:=X.below (Below.refl _ _).drew
 replace Y:=Y.below (Below.refl _ _).drew
 replace g:=g.below (Below.refl _ _).drew
 replace XP:=XP.below (Below.refl _ _).drew
 replace Z:=Z.below (Below.refl _ _).drew
 replace hb:=hb.drew
 go_region_held3 (fun w'=>w'.cell? ⟨w.heap.size,0,none⟩=some (.bool s)∧w'.cell? ⟨w.heap.size,1,none⟩=some (.slice A n c))
  (first | with_reducible exact ⟨XP.c0,XP.c1⟩ | with_reducible exact ⟨(set3_cell _ _ _ _ _ _ _ (by omega)).trans XP.c0,(set3_cell _ _ _ _ _ _ _ (by omega)).trans XP.c1⟩)
  (first
  | (go_at_call 75;(with_reducible refine (rdm_nr X.rn g (by omega) (by omega) HG0.out).mono ?_);rintro e w_x ⟨A_x,n_x,c_x,A_r,n_r,c_r,rfl,x,xr,hh⟩
     (try replace X:=X.below hh);(try replace Y:=Y.below hh);(try replace g:=g.below hh);(try replace y:=y.below hh);(try replace XP:=XP.below hh);(try replace Z:=Z.below hh);replace hb:=bend hb hh;have zf0:=Z.f0;have zf1:=Z.f1;have zf2:=Z.f2;obtain ⟨z0,z1,z2⟩:=Z.all)
  | (go_at_call 75;(with_reducible refine (rdm_nr Y g (by omega) (by omega) HG0.out).mono ?_);rintro e w_y ⟨A_y,n_y,c_y,A_t,n_t,c_t,rfl,y,yr,hh⟩
     (try replace X:=X.below hh);(try replace Y:=Y.below hh);(try replace g:=g.below hh);(try replace x:=x.below hh);(try replace XP:=XP.below hh);(try replace Z:=Z.below hh);replace hb:=bend hb hh;have zf0:=Z.f0;have zf1:=Z.f1;have zf2:=Z.f2;obtain ⟨z0,z1,z2⟩:=Z.all))
 go_wp2_with fail
 have Z2:=Z.set3 (.bool s) (.slice A_x n_x c_x) (.slice A_y n_y c_y)
 obtain ⟨g0,g1,g2⟩:=Z2.all
 refine bodyPost_ret (v:=.agg #[.bool s,.slice A_x n_x c_x,.slice A_y n_y c_y]) (by simp [results,Tryz.results36,go_sem,g0,g1,g2]) rfl ?_
 have hm:=HM.out
 have hr:RQ w_y s A_x n_x c_x A_y n_y c_y (mkRat p q) k:=⟨⟨X.1.trans (by rw [decide_eq_decide];exact hm.2.2.symm),by rw [hm.1];exact x⟩,by rw [hm.2.1];exact y⟩
 exact ⟨s,_,_,_,_,_,_,rfl,hr.set3 Z _ _ _,below_set3 hb (by omega) _ _ _⟩
theorem made_rq {s:Bool} {A B:Option Addr} {n c m d k q:Nat} {p:Int} (X:RG w s A n c p k) (Y:RN w B m d q k) (hk:k≤100000) (hq:q ≠ 0) :
 Calls Tryz.prog 36 #[.agg #[.bool s,.slice A n c],.slice B m d] w (GivesRQ w (mkRat p q) k):=by
 by_cases h1:Nat.gcd p.natAbs q=1
 · exact made_one X Y hk hq h1
 · rcases Nat.lt_or_ge (Nat.gcd p.natAbs q) B32 with h | h
   · exact made_small X Y hk hq rfl h h1
   · exact made_big X Y hk hq rfl h
end
section
theorem cmpQ_swap (v u:Rat):cmpQ u v=-cmpQ v u:=by
 unfold cmpQ
 by_cases h1:v < u <;> by_cases h2:u < v <;> simp [h1,h2]
 exact absurd (Rat.le_of_lt h2) (Rat.not_le.2 h1)
theorem cmpQ_le {v u:Rat}:cmpQ v u≤0 ↔ v≤u:=by
 unfold cmpQ
 rw [← Rat.not_lt]
 by_cases h1:v < u
 · have h2:¬ u < v:=fun h=>absurd (Rat.le_of_lt h) (Rat.not_le.2 h1)
   simp [h1,h2]
 · by_cases h2:u < v <;> simp [h1,h2]
theorem int1 (n:Int):Rat.divInt n 1=(n:Rat):=by
 have h:Rat.divInt n 1=mkRat n 1:=Rat.divInt_ofNat n 1
 rw [h]
 apply Rat.ext
 · simp [Rat.num_mkRat]
 · simp [Rat.den_mkRat]
end
section
open Go Go.RowKit
theorem RN.pos_ne {A:Option Addr} {n c V k:Nat} (h:RN w A n c V k) (hV:V ≠ 0):((n:Int) == 0)=false:=by
 have h1:=rn_pos h
 rw [decide_eq_true (show 0 < V by omega)] at h1
 have:=of_decide_eq_true h1
 simp;omega
theorem RN.zero_n {A:Option Addr} {n c V k:Nat} (h:RN w A n c V k) (hV:V=0):n=0:=by
 have h1:=h.1.1
 rw [hV,limbs_zero] at h1
 exact h1.symm
section
variable {w:World} {s:Bool} {A A':Option Addr} {n c n' c' k k1:Nat} {v:Rat}
theorem RQ.pz (h:RQ w s A n c A' n' c' v k):RZ w s A n c v.num k:=h.1.rz
theorem RQ.pg (h:RQ w s A n c A' n' c' v k):RG w s A n c v.num k:=h.1
theorem RQ.qn (h:RQ w s A n c A' n' c' v k):RN w A' n' c' v.den k:=h.2
theorem RQ.more (h:RQ w s A n c A' n' c' v k) (hk:k≤k1):RQ w s A n c A' n' c' v k1:=⟨h.1.more hk,h.2.more hk⟩
end
theorem parts_eq (v:Rat):v=mkRat v.num v.den:=(Rat.mkRat_self v).symm
theorem mkbx22_10 {w W:World} {x0 x1 x2 x3 x4 x5:Value} (h:((w.alloc (Obj.cells #[x0,x1,x2] 27)).alloc (Obj.cells #[x3,x4,x5] 43))=W):Below w.heap.size w W∧B3 W (w.heap.size) x0 x1 x2∧B3R W (w.heap.size+1) x3 x4 x5∧W.heap.size=w.heap.size+2:=by subst h;exact ⟨by exact (((Below.refl _ _).alloc (Nat.le_refl _) _).alloc (by simp) _),by exact (B3.new' _ _ _ _ _ rfl).alloc _,by exact B3R.new' _ _ _ _ _ (by simp),by simp⟩
theorem rin3_zero {s:Bool} {A A':Option Addr} {n c n' c' k qq:Nat} {pp:Int} (p:ZR w s A n c pp k) (q:NR w A' n' c' qq k) (hk:k≤1000) (hk1:1≤k) (hq:qq=0) :
 Calls Tryz.prog 13 #[.agg #[.bool s,.slice A n c,.slice A' n' c']] w (GivesRQ w (mkRat pp (den1 qq)) (2*k)):=by
 have HQ:=Lib.hid hq
 have HD:Hid (mkRat pp 1=mkRat pp (den1 qq)):=by show _=_;rw [hq];rfl
 clear hq
 go_enter Tryz.func13,Tryz.ntmps13
 go_wp2_with fail
 generalize hW:World.alloc _ _=W
 obtain ⟨hb,XA,Z,hzW⟩:=mkbx22_10 hW;clear hW;replace p:=p.below hb;replace q:=q.below hb;obtain ⟨xa0,xa1,xa2⟩:=XA.all
 go_upto_region 2 with (first
  | (go_at_call 34;(with_reducible refine (rin_nr (2*k) q (by omega) rfl).mono ?_);rintro e w_x ⟨A_x,n_x,c_x,rfl,x,hh⟩
     (try replace p:=p.below hh);(try replace q:=q.below hh);(try replace y:=y.below hh);(try replace o:=o.below hh);(try replace r:=r.below hh);(try replace XA:=XA.below hh);(try replace Z:=Z.below hh);replace hb:=bend hb hh;obtain ⟨xa0,xa1,xa2⟩:=XA.all))
 have hx0:=x.zero_n HQ.out
 subst hx0
 go_wp2_with (first
  | (go_at_call 35;(with_reducible refine (rof_rn _).mono ?_);rintro e w_o ⟨A_o,n_o,c_o,rfl,o,hh⟩
     (try replace p:=p.below hh);(try replace q:=q.below hh);(try replace x:=x.below hh);(try replace y:=y.below hh);(try replace r:=r.below hh);(try replace XA:=XA.below hh);(try replace Z:=Z.below hh);replace hb:=bend hb hh;obtain ⟨xa0,xa1,xa2⟩:=XA.all)
  | (go_at_call 37;(with_reducible refine (rin2 p hk).mono ?_);rintro e w_y ⟨s_y,A_y,n_y,c_y,rfl,y,hh⟩
     (try replace p:=p.below hh);(try replace q:=q.below hh);(try replace x:=x.below hh);(try replace o:=o.below hh);(try replace r:=r.below hh);(try replace XA:=XA.below hh);(try replace Z:=Z.below hh);replace hb:=bend hb hh;obtain ⟨xa0,xa1,xa2⟩:=XA.all)
  | (go_at_call 36;(with_reducible refine (made_rq y (o.more (by omega)) (by omega) (by decide)).mono ?_);rintro e w_r ⟨s_r,A_r,n_r,c_r,B_r,m_r,d_r,rfl,r,hh⟩
     rw [HD.out] at r;(try replace p:=p.below hh);(try replace q:=q.below hh);(try replace x:=x.below hh);(try replace y:=y.below hh);(try replace o:=o.below hh);(try replace XA:=XA.below hh);(try replace Z:=Z.below hh);replace hb:=bend hb hh;obtain ⟨xa0,xa1,xa2⟩:=XA.all;have zf0:=Z.f0;have zf1:=Z.f1;have zf2:=Z.f2;obtain ⟨z0,z1,z2⟩:=Z.all))
 have Z2:=Z.set3 (.bool s_r) (.slice A_r n_r c_r) (.slice B_r m_r d_r)
 obtain ⟨g0,g1,g2⟩:=Z2.all
 refine bodyPost_ret (v:=.agg #[.bool s_r,.slice A_r n_r c_r,.slice B_r m_r d_r]) (by simp [results,Tryz.results13,go_sem,g0,g1,g2]) rfl ?_
 exact ⟨s_r,A_r,n_r,c_r,B_r,m_r,d_r,rfl,r.set3 Z _ _ _,below_set3 hb (by omega) _ _ _⟩
theorem rin3_pos {s:Bool} {A A':Option Addr} {n c n' c' k qq:Nat} {pp:Int} (p:ZR w s A n c pp k) (q:NR w A' n' c' qq k) (hk:k≤1000) (hk1:1≤k) (hq:qq ≠ 0) :
 Calls Tryz.prog 13 #[.agg #[.bool s,.slice A n c,.slice A' n' c']] w (GivesRQ w (mkRat pp (den1 qq)) (2*k)):=by
 have HQ:=Lib.hid hq
 have HD:Hid (mkRat pp qq=mkRat pp (den1 qq)):=by show _=_;rw [den1_of hq]
 clear hq
 go_enter Tryz.func13,Tryz.ntmps13
 go_wp2_with fail
 generalize hW:World.alloc _ _=W
 obtain ⟨hb,XA,Z,hzW⟩:=mkbx22_10 hW;clear hW;replace p:=p.below hb;replace q:=q.below hb;obtain ⟨xa0,xa1,xa2⟩:=XA.all
 go_upto_region 2 with (first
  | (go_at_call 34;(with_reducible refine (rin_nr (2*k) q (by omega) rfl).mono ?_);rintro e w_x ⟨A_x,n_x,c_x,rfl,x,hh⟩
     (try replace p:=p.below hh);(try replace q:=q.below hh);(try replace y:=y.below hh);(try replace o:=o.below hh);(try replace r:=r.below hh);(try replace XA:=XA.below hh);(try replace Z:=Z.below hh);replace hb:=bend hb hh;obtain ⟨xa0,xa1,xa2⟩:=XA.all))
 have hx0:=x.pos_ne HQ.out
 go_wp2_with (first
  | (go_at_call 37;(with_reducible refine (rin2 p hk).mono ?_);rintro e w_y ⟨s_y,A_y,n_y,c_y,rfl,y,hh⟩
     (try replace p:=p.below hh);(try replace q:=q.below hh);(try replace x:=x.below hh);(try replace o:=o.below hh);(try replace r:=r.below hh);(try replace XA:=XA.below hh);(try replace Z:=Z.below hh);replace hb:=bend hb hh;obtain ⟨xa0,xa1,xa2⟩:=XA.all)
  | (go_at_call 36;(with_reducible refine (made_rq y x (by omega) HQ.out).mono ?_);rintro e w_r ⟨s_r,A_r,n_r,c_r,B_r,m_r,d_r,rfl,r,hh⟩
     rw [HD.out] at r;(try replace p:=p.below hh);(try replace q:=q.below hh);(try replace x:=x.below hh);(try replace y:=y.below hh);(try replace o:=o.below hh);(try replace XA:=XA.below hh);(try replace Z:=Z.below hh);replace hb:=bend hb hh;obtain ⟨xa0,xa1,xa2⟩:=XA.all;have zf0:=Z.f0;have zf1:=Z.f1;have zf2:=Z.f2;obtain ⟨z0,z1,z2⟩:=Z.all))
 have Z2:=Z.set3 (.bool s_r) (.slice A_r n_r c_r) (.slice B_r m_r d_r)
 obtain ⟨g0,g1,g2⟩:=Z2.all
 refine bodyPost_ret (v:=.agg #[.bool s_r,.slice A_r n_r c_r,.slice B_r m_r d_r]) (by simp [results,Tryz.results13,go_sem,g0,g1,g2]) rfl ?_
 exact ⟨s_r,A_r,n_r,c_r,B_r,m_r,d_r,rfl,r.set3 Z _ _ _,below_set3 hb (by omega) _ _ _⟩
theorem rin3 {s:Bool} {A A':Option Addr} {n c n' c' k:Nat} {v:Rat} (X0:QR w s A n c A' n' c' v k) (hk:k≤1000) (hk1:1≤k) :
 Calls Tryz.prog 13 #[.agg #[.bool s,.slice A n c,.slice A' n' c']] w (GivesRQ w v (2*k)):=by
 obtain ⟨pp,qq,p,q,rfl⟩:=X0
 by_cases h:qq=0
 · exact rin3_zero p q hk hk1 h
 · exact rin3_pos p q hk hk1 h
theorem mkbx23_10 {w W:World} {x0 x1 x2:Value} (h:(w.alloc (Obj.cells #[x0,x1,x2] 43))=W):Below w.heap.size w W∧B3R W (w.heap.size) x0 x1 x2∧W.heap.size=w.heap.size+1:=by subst h;exact ⟨by exact ((Below.refl _ _).alloc (Nat.le_refl _) _),by exact B3R.new' _ _ _ _ _ rfl,by simp⟩
theorem rsign3 {s:Bool} {A A':Option Addr} {n c n' c' k:Nat} {v:Rat} (X:RQ w s A n c A' n' c' v k) :
 Calls Tryz.prog 31 #[.agg #[.bool s,.slice A n c,.slice A' n' c']] w fun e w'=>e=.returned (.int .i64 (sgnQ v))∧Below w.heap.size w w':=by
 have HS:Hid (sgn v.num=sgnQ v):=by
  show _=_
  conv=>rhs;rw [parts_eq v]
  exact (sgnQ_mk v.den_nz).symm
 go_enter Tryz.func31,Tryz.ntmps31
 go_wp2_with fail
 generalize hW:World.alloc _ _=W
 obtain ⟨hb,XA,hzW⟩:=mkbx23_10 hW;clear hW;replace X:=X.below hb;obtain ⟨xa0,xa1,xa2⟩:=XA.all
 go_wp2_with (first
  | (go_at_call 68;(with_reducible refine (rsign2 X.pz).mono ?_);rintro e w_z ⟨rfl,hh⟩
     rw [HS.out];(try replace X:=X.below hh);(try replace XA:=XA.below hh);replace hb:=bend hb hh;obtain ⟨xa0,xa1,xa2⟩:=XA.all))
 go_ret;exact ⟨rfl,hb⟩
end
section
open Go Go.RowKit
def VRG (v:Int) (k:Nat) (x:Value) (w:World):Prop:=∃ s A n c,x=.agg #[.bool s,.slice A n c]∧RG w s A n c v k
theorem RG.box {T:TypeId} {w w':World} {g:Nat} {cs:Array Value} {s:Bool} {A:Option Addr} {n c k:Nat} {v:Int} (h:RG w s A n c v k) (B:BoxAt T w g cs) (ho:Only g w w'):RG w' s A n c v k:=h.only (B.offx h.2.1) ho
theorem stays_r (v:Int) (k:Nat):Stays (VRG v k) :=
 ⟨fun _ _ _ ⟨s,A,n,c,h1,h2⟩ hb=>⟨s,A,n,c,h1,h2.below hb⟩,fun _ _ _ _ _ _ ⟨s,A,n,c,h1,h2⟩ hB ho=>⟨s,A,n,c,h1,h2.box hB ho⟩⟩
def VRQ (v:Rat) (k:Nat) (x:Value) (w:World):Prop:=∃ s A n c B m d,x=.agg #[.bool s,.slice A n c,.slice B m d]∧RQ w s A n c B m d v k
theorem RQ.box {T:TypeId} {w w':World} {g:Nat} {cs:Array Value} {s:Bool} {A A':Option Addr} {n c n' c' k:Nat} {v:Rat} (h:RQ w s A n c A' n' c' v k) (B:BoxAt T w g cs) (ho:Only g w w'):RQ w' s A n c A' n' c' v k:=⟨h.1.box B ho,h.2.only (B.offx h.2.1) ho⟩
theorem stays_rq (v:Rat) (k:Nat):Stays (VRQ v k) :=
 ⟨fun _ _ _ ⟨s,A,n,c,B,m,d,h1,h2⟩ hb=>⟨s,A,n,c,B,m,d,h1,h2.below hb⟩,fun _ _ _ _ _ _ ⟨s,A,n,c,B,m,d,h1,h2⟩ hB ho=>⟨s,A,n,c,B,m,d,h1,h2.box hB ho⟩⟩
end
section
open Go Go.RowKit
theorem mkbx24_10 {w W:World} {x0 x1 x2 x3:Value} (h:((w.alloc (Obj.cells #[x0,x1] 41)).alloc (Obj.cells #[x2,x3] 25))=W):Below w.heap.size w W∧By W (w.heap.size) x0 x1∧Bx W (w.heap.size+1) x2 x3∧W.heap.size=w.heap.size+2:=by subst h;exact ⟨by exact (((Below.refl _ _).alloc (Nat.le_refl _) _).alloc (by simp) _),by exact (By.new w _ _).alloc _,by exact Bx.new' _ _ _ _ (by simp),by simp⟩
theorem out2c {t:Bool} {B:Option Addr} {m d k:Nat} {v:Int} (Y:RG w t B m d v k) (hk:k≤200000) :
 Calls Tryz.prog 80 #[.agg #[.bool t,.slice B m d]] w fun e w'=>∃ A n c,e=.returned (.agg #[.bool t,.slice A n c])∧Rd .u64 w' A n (limbs B64 v.natAbs)∧n≤c∧Below w.heap.size w w':=by
 have hJ:=join32_limbs v.natAbs;have HJ:=Lib.hid hJ
 have hm:m≤2000000:=Nat.le_trans Y.2.2.2 (by omega)
 have hY:=Y.2.1;clear hJ
 go_enter Tryz.func80,Tryz.ntmps80
 go_wp2_with fail
 generalize hW:World.alloc _ _=W
 obtain ⟨hb,XB,Z,hz⟩:=mkbx24_10 hW;clear hW;replace hY:=hY.below hb
 replace hY:=hY.below (Below.refl _ _).drew
 replace XB:=XB.drew;replace Z:=Z.drew;replace hb:=hb.drew
 go_region_held3 (fun w'=>w'.cell? ⟨w.heap.size,0,none⟩=some (Value.bool t)∧w'.cell? ⟨w.heap.size,1,none⟩=some (Value.slice B m d))
  (first | with_reducible exact ⟨XB.c0,XB.c1⟩ | with_reducible exact ⟨(set2_cell _ _ _ _ _ _ (by omega)).trans XB.c0,(set2_cell _ _ _ _ _ _ (by omega)).trans XB.c1⟩)
  (first
  | (go_at_call 79;(with_reducible refine (rout_any (limbs B32 v.natAbs) B m d _ hY (lim_limbs B32_two _) hm).mono ?_);rintro e w1 ⟨A1,n1,c1,rfl,p1,p2,p3,hh⟩
     rw [HJ.out] at p3;replace XB:=XB.below hh;replace Z:=Z.below hh;replace hb:=bend hb hh;obtain ⟨r0,r1⟩:=Z.all;have r2:=Z.f0;have r3:=Z.f1))
 go_wp2
 have hf0:=(Z.set2 (.bool t) (.slice A1 n1 c1)).c0
 have hf1:=(Z.set2 (.bool t) (.slice A1 n1 c1)).c1
 refine bodyPost_ret (v:=.agg #[.bool t,.slice A1 n1 c1]) (by simp [results,Tryz.results80,go_sem,hf0,hf1]) rfl ?_
 refine ⟨A1,n1,c1,rfl,?_,p1,(hb.setCell (by show w.heap.size≤_;simp) _).setCell (by show w.heap.size≤_;simp) _⟩
 exact p3.rd.only (Z.offx p3.rd) (((Only.refl (w.heap.size+1) w1).setCell 0 _).setCell 1 _)
theorem rout_vc {A:Option Addr} {n c V k:Nat} (Y:RN w A n c V k) (hk:k≤200000) :
 Calls Tryz.prog 79 #[.slice A n c] w fun e w'=>∃ A n c,e=.returned (.slice A n c)∧Rd .u64 w' A n (limbs B64 V)∧n≤c∧Below w.heap.size w w':=by
 refine (rout_any (limbs B32 V) A n c w Y.1 (lim_limbs B32_two _) (Nat.le_trans Y.2.2 (by omega))).mono ?_
 rintro e w' ⟨A1,n1,c1,rfl,p1,p2,p3,p4⟩
 rw [join32_limbs] at p3
 exact ⟨A1,n1,c1,rfl,p3.rd,p1,p4⟩
theorem mkbx25_10 {w W:World} {x0 x1 x2 x3 x4 x5:Value} (h:((w.alloc (Obj.cells #[x0,x1,x2] 43)).alloc (Obj.cells #[x3,x4,x5] 27))=W):Below w.heap.size w W∧B3R W (w.heap.size) x0 x1 x2∧B3 W (w.heap.size+1) x3 x4 x5∧W.heap.size=w.heap.size+2:=by subst h;exact ⟨by exact (((Below.refl _ _).alloc (Nat.le_refl _) _).alloc (by simp) _),by exact (B3R.new' _ _ _ _ _ rfl).alloc _,by exact B3.new' _ _ _ _ _ (by simp),by simp⟩
theorem rout3g {s:Bool} {A A':Option Addr} {n c n' c' k:Nat} {v:Rat} (X:RQ w s A n c A' n' c' v k) (hk:k≤100000) (K:Nat) (h1:v.num.natAbs < B64 ^ K) (h2:v.den < B64 ^ K) :
 Calls Tryz.prog 39 #[.agg #[.bool s,.slice A n c,.slice A' n' c']] w (GivesQ w v K):=by
 have hs:s=decide (v.num < 0):=X.pg.1
 have HS:=Lib.hid hs
 have HK:Hid ((limbs B64 v.num.natAbs).length≤K∧(limbs B64 v.den).length≤K):=⟨length_limbs_le B64_two h1,length_limbs_le B64_two h2⟩
 clear h1 h2;clear hs
 go_enter Tryz.func39,Tryz.ntmps39
 go_wp2_with fail
 generalize hW:World.alloc _ _=W
 obtain ⟨hb,XA,Z,hzW⟩:=mkbx25_10 hW;clear hW;replace X:=X.below hb;obtain ⟨xa0,xa1,xa2⟩:=XA.all
 go_upto_region 2 with (first
  | (go_at_call 79;(with_reducible refine (rout_vc X.qn (by omega)).mono ?_);rintro e w_q ⟨A_q,n_q,c_q,rfl,q,qc,hh⟩
     (try replace X:=X.below hh);(try replace p:=p.below hh);(try replace XA:=XA.below hh);(try replace Z:=Z.below hh);replace hb:=bend hb hh;obtain ⟨xa0,xa1,xa2⟩:=XA.all))
 have hq0:((n_q:Int) == 0)=false:=by
  have h1:=q.1;rw [limbs_pos B64_two v.den_nz] at h1
  simp at h1 ⊢
  omega
 have zf0:=Z.f0;have zf1:=Z.f1;have zf2:=Z.f2;obtain ⟨z0,z1,z2⟩:=Z.all
 go_wp2_with (first
  | (go_at_call 80;(with_reducible refine (out2c X.pg (by omega)).mono ?_);rintro e w_p ⟨A_p,n_p,c_p,rfl,p,pc,hh⟩
     (try replace X:=X.below hh);(try replace q:=q.below hh);(try replace XA:=XA.below hh);(try replace Z:=Z.below hh);replace hb:=bend hb hh;obtain ⟨xa0,xa1,xa2⟩:=XA.all;have zf0:=Z.f0;have zf1:=Z.f1;have zf2:=Z.f2;obtain ⟨z0,z1,z2⟩:=Z.all))
 have Z2:=Z.set3 (.bool s) (.slice A_p n_p c_p) (.slice A_q n_q c_q)
 obtain ⟨g0,g1,g2⟩:=Z2.all
 refine bodyPost_ret (v:=.agg #[.bool s,.slice A_p n_p c_p,.slice A_q n_q c_q]) (by simp [results,Tryz.results39,go_sem,g0,g1,g2]) rfl ?_
 have ho:=(((Only.refl (w.heap.size+1) w_p).setCell 0 (Value.bool s)).setCell 1 (Value.slice A_p n_p c_p)).setCell 2 (Value.slice A_q n_q c_q)
 exact ⟨s,A_p,n_p,c_p,A_q,n_q,c_q,rfl,⟨⟨HS.out,p.only (Z.offx p) ho,pc,by rw [← p.1];exact HK.out.1⟩,q.only (Z.offx q) ho,qc,by rw [← q.1];exact HK.out.2⟩,below_set3 hb (by omega) _ _ _⟩
end
section
open Go Go.RowKit
theorem ZG.nil (k:Nat):ZG w false none 0 0 0 k:=⟨rfl,by rw [show ((0:Int).natAbs)=0 from rfl,limbs_zero];exact Rd.nil,Nat.le_refl _,Nat.zero_le _⟩
theorem RG.nil (k:Nat):RG w false none 0 0 0 k:=⟨rfl,RN.zero w k⟩
theorem rof2_any (v:Int) (h1:-9223372036854775808≤v) (h2:v < 9223372036854775808) (w:World):Calls Tryz.prog 82 #[.int .i64 v] w (GivesRZ w v 2):=by
 by_cases h:v < 0
 · obtain ⟨V,rfl⟩:∃ V:Nat,v=-(V:Int):=⟨v.natAbs,by omega⟩
   exact rof2_neg V (by omega) (by omega) w
 · obtain ⟨V,rfl⟩:∃ V:Nat,v=(V:Int):=⟨v.natAbs,by omega⟩
   exact rof2_pos V (by omega) w
end
section
open Go Go.RowKit
theorem RG.of_f {A:Option Addr} {n c V k:Nat} (h:RN w A n c V k):RG w false A n c (iv false V) k:=RG.of_made (neg:=false) h rfl
theorem RG.of_t {A:Option Addr} {n c V k:Nat} (h:RN w A n c V k):RG w (decide (0 < n)) A n c (iv true V) k:=RG.of_made (neg:=true) h rfl
theorem int_parts (p:Int):(Rat.divInt p 1).num=p∧(Rat.divInt p 1).den=1:=by rw [int1];exact ⟨rfl,rfl⟩
theorem mkbx26_10 {w W:World} {x0 x1 x2 x3:Value} (h:((w.alloc (Obj.cells #[x0,x1] 41)).alloc (Obj.cells #[x2,x3] 41))=W):Below w.heap.size w W∧By W (w.heap.size) x0 x1∧By W (w.heap.size+1) x2 x3∧W.heap.size=w.heap.size+2:=by subst h;exact ⟨by exact (((Below.refl _ _).alloc (Nat.le_refl _) _).alloc (by simp) _),by exact (By.new' _ _ _ _ rfl).alloc _,by exact By.new' _ _ _ _ (by simp),by simp⟩
theorem rof3 (p q:Int) (hp1:-9223372036854775808≤p) (hp2:p < 9223372036854775808) (hq1:-9223372036854775808≤q) (hq2:q < 9223372036854775808) (h0:((q:Int) == 0)=false) (w:World) :
 Calls Tryz.prog 41 #[.int .i64 p,.int .i64 q] w (GivesRQ w (Rat.divInt p q) 2):=by
 have hq0:q ≠ 0:=by simpa using h0
 have HQ0:Hid ((q:Int).natAbs ≠ 0):=by show (q:Int).natAbs ≠ 0;omega
 have H1:=Lib.hid hp1;have H2:=Lib.hid hp2;have H3:=Lib.hid hq1;have H4:=Lib.hid hq2;clear hq0;clear hp1 hp2 hq1 hq2
 go_enter Tryz.func41,Tryz.ntmps41
 go_upto_region 1 with (fail)
 generalize hW:World.alloc _ _=W
 obtain ⟨hb,Z,hzW⟩:=mkbx23_10 hW;clear hW
 go_upto_region 4 with (first
  | (go_at_call 82;(with_reducible refine (rof2_any p H1.out H2.out _).mono ?_);rintro e w_x ⟨s_x,A_x,n_x,c_x,rfl,x,hh⟩
     (try replace y:=y.below hh);(try replace r:=r.below hh);(try replace XP:=XP.below hh);(try replace XQ:=XQ.below hh);(try replace Z:=Z.below hh);replace hb:=bend hb hh)
  | (go_at_call 82;(with_reducible refine (rof2_any q H3.out H4.out _).mono ?_);rintro e w_y ⟨s_y,A_y,n_y,c_y,rfl,y,hh⟩
     (try replace x:=x.below hh);(try replace r:=r.below hh);(try replace XP:=XP.below hh);(try replace XQ:=XQ.below hh);(try replace Z:=Z.below hh);replace hb:=bend hb hh))
 generalize hW:World.alloc _ _=W2
 obtain ⟨hh,XP,XQ,hzW2⟩:=mkbx26_10 hW;clear hW;(try replace x:=x.below hh);(try replace y:=y.below hh);(try replace Z:=Z.below hh);replace hb:=bend hb hh
 have hsx:s_x=decide (p < 0):=x.1
 have hsy:s_y=decide (q < 0):=y.1
 have HE:Hid (mkRat (iv (s_x != s_y) p.natAbs) (q:Int).natAbs=Rat.divInt p q):=by
  show _=_
  rw [← div_mk,hsx,hsy,iv_canon]
  first | rfl | rw [iv_canon]
 have hnx:=rn_pos x.rn;have HNX:=Lib.hid hnx;have xr:=x.rn;have yr:=y.rn;clear hsx hsy hnx x y
 cases s_x <;> cases s_y
 · have xp0:=XP.c0
   have xp1:=XP.c1;obtain ⟨xq0,xq1⟩:=XQ.all;have zf0:=Z.f0;have zf1:=Z.f1;have zf2:=Z.f2;obtain ⟨z0,z1,z2⟩:=Z.all
   have HE2:Hid (mkRat (iv false p.natAbs) (q:Int).natAbs=Rat.divInt p q):=HE
   go_wp2_with (first
    | (go_at_call 36;(with_reducible refine (made_rq (RG.of_f xr) yr (by decide) HQ0.out).mono ?_);rintro e w_r ⟨s_r,A_r,n_r,c_r,B_r,m_r,d_r,rfl,r,hh⟩
       rw [HE2.out] at r;(try replace Z:=Z.below hh);replace hb:=bend hb hh;have zf0:=Z.f0;have zf1:=Z.f1;have zf2:=Z.f2;obtain ⟨z0,z1,z2⟩:=Z.all))
   have Z2:=Z.set3 (.bool s_r) (.slice A_r n_r c_r) (.slice B_r m_r d_r)
   obtain ⟨g0,g1,g2⟩:=Z2.all
   refine bodyPost_ret (v:=.agg #[.bool s_r,.slice A_r n_r c_r,.slice B_r m_r d_r]) (by simp [results,Tryz.results41,go_sem,g0,g1,g2]) rfl ?_
   exact ⟨s_r,A_r,n_r,c_r,B_r,m_r,d_r,rfl,r.set3 Z _ _ _,below_set3 hb (by omega) _ _ _⟩
 · have xp0:=XP.c0
   have xp1:=XP.c1;obtain ⟨xq0,xq1⟩:=XQ.all;have zf0:=Z.f0;have zf1:=Z.f1;have zf2:=Z.f2;obtain ⟨z0,z1,z2⟩:=Z.all
   have HE2:Hid (mkRat (iv true p.natAbs) (q:Int).natAbs=Rat.divInt p q):=HE
   go_wp2_with (first
    | (go_at_call 36;(with_reducible refine (made_rq (RG.of_t xr) yr (by decide) HQ0.out).mono ?_);rintro e w_r ⟨s_r,A_r,n_r,c_r,B_r,m_r,d_r,rfl,r,hh⟩
       rw [HE2.out] at r;(try replace Z:=Z.below hh);replace hb:=bend hb hh;have zf0:=Z.f0;have zf1:=Z.f1;have zf2:=Z.f2;obtain ⟨z0,z1,z2⟩:=Z.all))
   have Z2:=Z.set3 (.bool s_r) (.slice A_r n_r c_r) (.slice B_r m_r d_r)
   obtain ⟨g0,g1,g2⟩:=Z2.all
   refine bodyPost_ret (v:=.agg #[.bool s_r,.slice A_r n_r c_r,.slice B_r m_r d_r]) (by simp [results,Tryz.results41,go_sem,g0,g1,g2]) rfl ?_
   exact ⟨s_r,A_r,n_r,c_r,B_r,m_r,d_r,rfl,r.set3 Z _ _ _,below_set3 hb (by omega) _ _ _⟩
 · have xp0:=XP.c0
   have xp1:=XP.c1;obtain ⟨xq0,xq1⟩:=XQ.all;have zf0:=Z.f0;have zf1:=Z.f1;have zf2:=Z.f2;obtain ⟨z0,z1,z2⟩:=Z.all
   have HE2:Hid (mkRat (iv true p.natAbs) (q:Int).natAbs=Rat.divInt p q):=HE
   go_wp2_with (first
    | (go_at_call 36;(with_reducible refine (made_rq (RG.of_t xr) yr (by decide) HQ0.out).mono ?_);rintro e w_r ⟨s_r,A_r,n_r,c_r,B_r,m_r,d_r,rfl,r,hh⟩
       rw [HE2.out] at r;(try replace Z:=Z.below hh);replace hb:=bend hb hh;have zf0:=Z.f0;have zf1:=Z.f1;have zf2:=Z.f2;obtain ⟨z0,z1,z2⟩:=Z.all))
   have Z2:=Z.set3 (.bool s_r) (.slice A_r n_r c_r) (.slice B_r m_r d_r)
   obtain ⟨g0,g1,g2⟩:=Z2.all
   refine bodyPost_ret (v:=.agg #[.bool s_r,.slice A_r n_r c_r,.slice B_r m_r d_r]) (by simp [results,Tryz.results41,go_sem,g0,g1,g2]) rfl ?_
   exact ⟨s_r,A_r,n_r,c_r,B_r,m_r,d_r,rfl,r.set3 Z _ _ _,below_set3 hb (by omega) _ _ _⟩
 · have xp0:=XP.c0
   have xp1:=XP.c1;obtain ⟨xq0,xq1⟩:=XQ.all;have zf0:=Z.f0;have zf1:=Z.f1;have zf2:=Z.f2;obtain ⟨z0,z1,z2⟩:=Z.all
   have HE2:Hid (mkRat (iv false p.natAbs) (q:Int).natAbs=Rat.divInt p q):=HE
   go_wp2_with (first
    | (go_at_call 36;(with_reducible refine (made_rq (RG.of_f xr) yr (by decide) HQ0.out).mono ?_);rintro e w_r ⟨s_r,A_r,n_r,c_r,B_r,m_r,d_r,rfl,r,hh⟩
       rw [HE2.out] at r;(try replace Z:=Z.below hh);replace hb:=bend hb hh;have zf0:=Z.f0;have zf1:=Z.f1;have zf2:=Z.f2;obtain ⟨z0,z1,z2⟩:=Z.all))
   have Z2:=Z.set3 (.bool s_r) (.slice A_r n_r c_r) (.slice B_r m_r d_r)
   obtain ⟨g0,g1,g2⟩:=Z2.all
   refine bodyPost_ret (v:=.agg #[.bool s_r,.slice A_r n_r c_r,.slice B_r m_r d_r]) (by simp [results,Tryz.results41,go_sem,g0,g1,g2]) rfl ?_
   exact ⟨s_r,A_r,n_r,c_r,B_r,m_r,d_r,rfl,r.set3 Z _ _ _,below_set3 hb (by omega) _ _ _⟩
end
section
open Go Go.RowKit
theorem small_m (M:Nat) {s:Bool} {A A':Option Addr} {n c n' c':Nat} (w:World) (L:Bool) (hL:decide (n≤M∧n'≤M)=L) :
 Calls Tryz.prog 7 #[.agg #[.bool s,.slice A n c,.slice A' n' c'],.int .i64 (M:Int)] w fun e w'=>e=.returned (.bool L)∧Below w.heap.size w w':=by
 have HL:=Lib.hid hL;clear hL
 go_enter Tryz.func7,Tryz.ntmps7
 go_wp2_with fail
 generalize hW:World.alloc _ _=W
 obtain ⟨hb,XA,hzW⟩:=mkbx9_8 hW;clear hW;obtain ⟨xa0,xa1,xa2⟩:=XA.all
 go_wp2_with fail
 · have h:n≤M:=by assumption
   go_ret
   refine ⟨?_,by first | assumption | exact (Below.refl _ _).alloc (Nat.le_refl _) _⟩
   show Ending.returned (.bool (decide (n'≤M)))=_
   rw [← HL.out]
   by_cases h2:n'≤M
   · rw [decide_eq_true (show n'≤M by omega),decide_eq_true (show n≤M∧n'≤M by omega)]
   · rw [decide_eq_false (show ¬ n'≤M by omega),decide_eq_false (show ¬ (n≤M∧n'≤M) by omega)]
 · have h:M < n:=by omega
   go_ret
   refine ⟨?_,by first | assumption | exact (Below.refl _ _).alloc (Nat.le_refl _) _⟩
   show Ending.returned (.bool false)=_
   rw [← HL.out,decide_eq_false (show ¬ (n≤M∧n'≤M) by omega)]
end
section
open Go Go.RowKit
def B6R (W:World) (g:Nat) (x y z u v t:Value):Prop:=W.heap[g]?=some (.cells #[x,y,z,u,v,t] 80 (0,0))
section
variable {W W':World} {g:Nat} {x y z u v t:Value}
theorem B6R.c0 (h:B6R W g x y z u v t):W.cell? ⟨g,0,none⟩=some x:=by rw [cell_of_row W g 0 _ _ (0,0) h];rfl
theorem B6R.c1 (h:B6R W g x y z u v t):W.cell? ⟨g,1,none⟩=some y:=by rw [cell_of_row W g 1 _ _ (0,0) h];rfl
theorem B6R.c2 (h:B6R W g x y z u v t):W.cell? ⟨g,2,none⟩=some z:=by rw [cell_of_row W g 2 _ _ (0,0) h];rfl
theorem B6R.c3 (h:B6R W g x y z u v t):W.cell? ⟨g,3,none⟩=some u:=by rw [cell_of_row W g 3 _ _ (0,0) h];rfl
theorem B6R.c4 (h:B6R W g x y z u v t):W.cell? ⟨g,4,none⟩=some v:=by rw [cell_of_row W g 4 _ _ (0,0) h];rfl
theorem B6R.c5 (h:B6R W g x y z u v t):W.cell? ⟨g,5,none⟩=some t:=by rw [cell_of_row W g 5 _ _ (0,0) h];rfl
theorem B6R.all (h:B6R W g x y z u v t):W.cell? ⟨g,0,none⟩=some x∧W.cell? ⟨g,1,none⟩=some y∧W.cell? ⟨g,2,none⟩=some z∧W.cell? ⟨g,3,none⟩=some u∧W.cell? ⟨g,4,none⟩=some v∧W.cell? ⟨g,5,none⟩=some t:=⟨h.c0,h.c1,h.c2,h.c3,h.c4,h.c5⟩
theorem B6R.f0 (h:B6R W g x y z u v t):W.frozen? ⟨g,0,none⟩=false:=frozen_of_row W g 0 _ _ h
theorem B6R.f1 (h:B6R W g x y z u v t):W.frozen? ⟨g,1,none⟩=false:=frozen_of_row W g 1 _ _ h
theorem B6R.f2 (h:B6R W g x y z u v t):W.frozen? ⟨g,2,none⟩=false:=frozen_of_row W g 2 _ _ h
theorem B6R.f3 (h:B6R W g x y z u v t):W.frozen? ⟨g,3,none⟩=false:=frozen_of_row W g 3 _ _ h
theorem B6R.f4 (h:B6R W g x y z u v t):W.frozen? ⟨g,4,none⟩=false:=frozen_of_row W g 4 _ _ h
theorem B6R.f5 (h:B6R W g x y z u v t):W.frozen? ⟨g,5,none⟩=false:=frozen_of_row W g 5 _ _ h
theorem B6R.lt (h:B6R W g x y z u v t):g < W.heap.size:=World.block_lt_of_cell? W _ h.c0
theorem B6R.below (h:B6R W g x y z u v t) (hb:Below W.heap.size W W'):B6R W' g x y z u v t:=(hb.block g h.lt).trans h
theorem B6R.alloc (h:B6R W g x y z u v t) (o:Obj):B6R (W.alloc o) g x y z u v t:=(Below.heap_alloc W o g h.lt).trans h
theorem B6R.new' (W:World) (x y z u v t:Value) (g:Nat) (hg:g=W.heap.size):B6R (W.alloc (.cells #[x,y,z,u,v,t] 80)) g x y z u v t:=by subst hg;exact heap_alloc_new W _
end
theorem B6R.set6 {W:World} {g:Nat} {x y z u v t:Value} (h:B6R W g x y z u v t) (a b c d e f:Value):B6R ((((((W.setCell ⟨g,0,none⟩ a).setCell ⟨g,1,none⟩ b).setCell ⟨g,2,none⟩ c).setCell ⟨g,3,none⟩ d).setCell ⟨g,4,none⟩ e).setCell ⟨g,5,none⟩ f) g a b c d e f:=by
 unfold B6R at h ⊢
 simp [World.setCell,Array.getElem?_modify,h]
theorem Rd.off6R {K:IntKind} {W:World} {g:Nat} {s t:Bool} {A A1 A2 A3 A4:Option Addr} {n n1 c1 n2 c2 n3 c3 n4 c4:Nat} {l:List Nat} (hr:Rd K W A n l) (h:B6R W g (.bool s) (.slice A1 n1 c1) (.slice A2 n2 c2) (.bool t) (.slice A3 n3 c3) (.slice A4 n4 c4)):Off A n g:=by
 intro hn ad e hg
 obtain ⟨b,o,eA,hc⟩:=hr.at_ hn
 obtain ⟨x,_,hx⟩:=hc 0 hn
 rw [eA] at e
 cases e
 have hg2:b=g:=hg
 subst hg2
 rw [cell_of_row W b (o+0) _ _ (0,0) h] at hx
 match o,hx with
 | 0,hx=>cases hx
 | 1,hx=>cases hx
 | 2,hx=>cases hx
 | 3,hx=>cases hx
 | 4,hx=>cases hx
 | 5,hx=>cases hx
 | o+6,hx=>cases hx
def RP (w:World) (s:Bool) (A:Option Addr) (n c:Nat) (B:Option Addr) (m d:Nat) (t:Bool) (E:Option Addr) (i e:Nat) (F:Option Addr) (j f:Nat) (x y:Rat) (k:Nat):Prop:=RQ w s A n c B m d x k∧RQ w t E i e F j f y k
def GivesRP (w:World) (x y:Rat) (k:Nat) (en:Ending) (w':World):Prop :=
 ∃ s A n c B m d t E i e F j f,en=.returned (.agg #[.bool s,.slice A n c,.slice B m d,.bool t,.slice E i e,.slice F j f])∧RP w' s A n c B m d t E i e F j f x y k∧Below w.heap.size w w'
section
variable {w w':World} {s t:Bool} {A B E F:Option Addr} {n c m d i e j f k k1:Nat} {x y:Rat}
theorem RP.below (h:RP w s A n c B m d t E i e F j f x y k) (hb:Below w.heap.size w w'):RP w' s A n c B m d t E i e F j f x y k:=⟨h.1.below hb,h.2.below hb⟩
theorem RP.qx (h:RP w s A n c B m d t E i e F j f x y k):RQ w s A n c B m d x k:=h.1
theorem RP.qy (h:RP w s A n c B m d t E i e F j f x y k):RQ w t E i e F j f y k:=h.2
theorem RP.more (h:RP w s A n c B m d t E i e F j f x y k) (hk:k≤k1):RP w s A n c B m d t E i e F j f x y k1:=⟨h.1.more hk,h.2.more hk⟩
theorem RQ.onl {v:Rat} {g:Nat} (h:RQ w s A n c B m d v k) (h1:Off A n g) (h2:Off B m g) (ho:Only g w w'):RQ w' s A n c B m d v k:=⟨h.1.only h1 ho,h.2.only h2 ho⟩
theorem RP.set6 {s0 t0:Bool} {g:Nat} {A1 A2 A3 A4:Option Addr} {n1 c1 n2 c2 n3 c3 n4 c4:Nat} (h:RP w s A n c B m d t E i e F j f x y k) (Z:B6R w g (.bool s0) (.slice A1 n1 c1) (.slice A2 n2 c2) (.bool t0) (.slice A3 n3 c3) (.slice A4 n4 c4)) (a1 a2 a3 a4 a5 a6:Value) :
 RP ((((((w.setCell ⟨g,0,none⟩ a1).setCell ⟨g,1,none⟩ a2).setCell ⟨g,2,none⟩ a3).setCell ⟨g,3,none⟩ a4).setCell ⟨g,4,none⟩ a5).setCell ⟨g,5,none⟩ a6) s A n c B m d t E i e F j f x y k:=by
 have ho:Only g w ((((((w.setCell ⟨g,0,none⟩ a1).setCell ⟨g,1,none⟩ a2).setCell ⟨g,2,none⟩ a3).setCell ⟨g,3,none⟩ a4).setCell ⟨g,4,none⟩ a5).setCell ⟨g,5,none⟩ a6):=((((((Only.refl g w).setCell 0 _).setCell 1 _).setCell 2 _).setCell 3 _).setCell 4 _).setCell 5 _
 exact ⟨h.1.onl (h.1.1.2.1.off6R Z) (h.1.2.1.off6R Z) ho,h.2.onl (h.2.1.2.1.off6R Z) (h.2.2.1.off6R Z) ho⟩
end
theorem mkbx27_10 {w W:World} {x0 x1 x2 x3 x4 x5:Value} (h:(w.alloc (Obj.cells #[x0,x1,x2,x3,x4,x5] 80))=W):Below w.heap.size w W∧B6R W (w.heap.size) x0 x1 x2 x3 x4 x5∧W.heap.size=w.heap.size+1:=by subst h;exact ⟨by exact ((Below.refl _ _).alloc (Nat.le_refl _) _),by exact B6R.new' _ _ _ _ _ _ _ _ rfl,by simp⟩
theorem rof6 (x y:Int) (hx1:-9223372036854775808≤x) (hx2:x < 9223372036854775808) (hy1:-9223372036854775808≤y) (hy2:y < 9223372036854775808) (w:World) :
 Calls Tryz.prog 63 #[.int .i64 x,.int .i64 y] w (GivesRP w (Rat.divInt x 1) (Rat.divInt y 1) 2):=by
 have H1:=Lib.hid hx1;have H2:=Lib.hid hx2;have H3:=Lib.hid hy1;have H4:=Lib.hid hy2;clear hx1 hx2 hy1 hy2
 go_enter Tryz.func63,Tryz.ntmps63
 go_upto_region 1 with (fail)
 generalize hW:World.alloc _ _=W
 obtain ⟨hb,Z,hzW⟩:=mkbx27_10 hW;clear hW
 go_wp2_with (first
  | (go_at_call 41;(with_reducible refine (rof3 x 1 H1.out H2.out (by decide) (by decide) (by decide) _).mono ?_);rintro e w_r ⟨s_r,A_r,n_r,c_r,B_r,m_r,d_r,rfl,r,hh⟩
     (try replace Z:=Z.below hh);replace hb:=bend hb hh)
  | (go_at_call 41;(with_reducible refine (rof3 y 1 H3.out H4.out (by decide) (by decide) (by decide) _).mono ?_);rintro e w_u ⟨s_u,A_u,n_u,c_u,B_u,m_u,d_u,rfl,u,hh⟩
     (try replace Z:=Z.below hh);(try replace r:=r.below hh);replace hb:=bend hb hh;have zg0:=Z.f0;have zg1:=Z.f1;have zg2:=Z.f2;have zg3:=Z.f3;have zg4:=Z.f4;have zg5:=Z.f5;obtain ⟨zc0,zc1,zc2,zc3,zc4,zc5⟩:=Z.all))
 have Z2:=Z.set6 (.bool s_r) (.slice A_r n_r c_r) (.slice B_r m_r d_r) (.bool s_u) (.slice A_u n_u c_u) (.slice B_u m_u d_u)
 obtain ⟨g0,g1,g2,g3,g4,g5⟩:=Z2.all
 refine bodyPost_ret (v:=.agg #[.bool s_r,.slice A_r n_r c_r,.slice B_r m_r d_r,.bool s_u,.slice A_u n_u c_u,.slice B_u m_u d_u]) (by simp [results,Tryz.results63,go_sem,g0,g1,g2,g3,g4,g5]) rfl ?_
 exact ⟨_,_,_,_,_,_,_,_,_,_,_,_,_,_,rfl,(show RP _ _ _ _ _ _ _ _ _ _ _ _ _ _ _ _ _ _ from ⟨r,u⟩).set6 Z _ _ _ _ _ _,below_set6 hb (by omega) _ _ _ _ _ _⟩
theorem mkbx28_10 {w W:World} {x0 x1 x2 x3 x4 x5 x6 x7 x8 x9 x10 x11:Value} (h:((w.alloc (Obj.cells #[x0,x1,x2,x3,x4,x5] 80)).alloc (Obj.cells #[x6,x7,x8,x9,x10,x11] 49))=W):Below w.heap.size w W∧B6R W (w.heap.size) x0 x1 x2 x3 x4 x5∧B6 W (w.heap.size+1) x6 x7 x8 x9 x10 x11∧W.heap.size=w.heap.size+2:=by subst h;exact ⟨by exact (((Below.refl _ _).alloc (Nat.le_refl _) _).alloc (by simp) _),by exact (B6R.new' _ _ _ _ _ _ _ _ rfl).alloc _,by exact B6.new' _ _ _ _ _ _ _ _ (by simp),by simp⟩
theorem rout6 {k:Nat} {x y:Rat} (p:RP w s_p A_p n_p c_p B_p m_p d_p t_p E_p i_p e_p F_p j_p f_p x y k) (hk:k≤100000) (K:Nat) (h1:x.num.natAbs < B64 ^ K) (h2:x.den < B64 ^ K) (h3:y.num.natAbs < B64 ^ K) (h4:y.den < B64 ^ K) :
 Calls Tryz.prog 62 #[.agg #[.bool s_p,.slice A_p n_p c_p,.slice B_p m_p d_p,.bool t_p,.slice E_p i_p e_p,.slice F_p j_p f_p]] w (GivesPt w x y K):=by
 have H1:=Lib.hid h1;have H2:=Lib.hid h2;have H3:=Lib.hid h3;have H4:=Lib.hid h4;clear h1 h2 h3 h4
 go_enter Tryz.func62,Tryz.ntmps62
 go_upto_region 1 with (fail)
 generalize hW:World.alloc _ _=W
 obtain ⟨hb,XA,Z,hzW⟩:=mkbx28_10 hW;clear hW;replace p:=p.below hb
 replace p:=p.below (Below.refl _ _).drew
 replace XA:=XA.below (Below.refl _ _).drew
 replace Z:=Z.below (Below.refl _ _).drew
 replace hb:=hb.drew
 go_region_held3 (fun w'=>w'.cell? ⟨w.heap.size,0,none⟩=some (.bool s_p)∧w'.cell? ⟨w.heap.size,1,none⟩=some (.slice A_p n_p c_p)∧w'.cell? ⟨w.heap.size,2,none⟩=some (.slice B_p m_p d_p)∧w'.cell? ⟨w.heap.size,3,none⟩=some (.bool t_p)∧w'.cell? ⟨w.heap.size,4,none⟩=some (.slice E_p i_p e_p)∧w'.cell? ⟨w.heap.size,5,none⟩=some (.slice F_p j_p f_p))
  (first | with_reducible exact ⟨XA.c0,XA.c1,XA.c2,XA.c3,XA.c4,XA.c5⟩ | with_reducible exact ⟨(set6_cell _ _ _ _ _ _ _ _ _ _ (by omega)).trans XA.c0,(set6_cell _ _ _ _ _ _ _ _ _ _ (by omega)).trans XA.c1,(set6_cell _ _ _ _ _ _ _ _ _ _ (by omega)).trans XA.c2,(set6_cell _ _ _ _ _ _ _ _ _ _ (by omega)).trans XA.c3,(set6_cell _ _ _ _ _ _ _ _ _ _ (by omega)).trans XA.c4,(set6_cell _ _ _ _ _ _ _ _ _ _ (by omega)).trans XA.c5⟩)
  (first
  | (go_at_call 39;(with_reducible refine (rout3g p.qx hk K H1.out H2.out).mono ?_);rintro e w_r ⟨s_r,A_r,n_r,c_r,B_r,m_r,d_r,rfl,r,hh⟩
     (try replace p:=p.below hh);(try replace XA:=XA.below hh);(try replace Z:=Z.below hh);replace hb:=bend hb hh)
  | (go_at_call 39;(with_reducible refine (rout3g p.qy hk K H3.out H4.out).mono ?_);rintro e w_u ⟨s_u,A_u,n_u,c_u,B_u,m_u,d_u,rfl,u,hh⟩
     (try replace p:=p.below hh);(try replace r:=r.below hh);(try replace XA:=XA.below hh);(try replace Z:=Z.below hh);replace hb:=bend hb hh;have zg0:=Z.f0;have zg1:=Z.f1;have zg2:=Z.f2;have zg3:=Z.f3;have zg4:=Z.f4;have zg5:=Z.f5;obtain ⟨zc0,zc1,zc2,zc3,zc4,zc5⟩:=Z.all))
 go_wp2_with fail
 have Z2:=Z.set6 (.bool s_r) (.slice A_r n_r c_r) (.slice B_r m_r d_r) (.bool s_u) (.slice A_u n_u c_u) (.slice B_u m_u d_u)
 obtain ⟨g0,g1,g2,g3,g4,g5⟩:=Z2.all
 refine bodyPost_ret (v:=.agg #[.bool s_r,.slice A_r n_r c_r,.slice B_r m_r d_r,.bool s_u,.slice A_u n_u c_u,.slice B_u m_u d_u]) (by simp [results,Tryz.results62,go_sem,g0,g1,g2,g3,g4,g5]) rfl ?_
 exact ⟨_,_,_,_,_,_,_,_,_,_,_,_,_,_,rfl,(show PG _ _ _ _ _ _ _ _ _ _ _ _ _ _ _ _ _ _ from ⟨r,u⟩).set6 Z _ _ _ _ _ _,below_set6 hb (by omega) _ _ _ _ _ _⟩
theorem int_fits {x:Int} (h1:-9223372036854775808≤x) (h2:x < 9223372036854775808):(Rat.divInt x 1).num.natAbs < B64 ^ 1∧(Rat.divInt x 1).den < B64 ^ 1:=by
 rw [(int_parts x).1,(int_parts x).2,Nat.pow_one]
 have:B64=18446744073709551616:=rfl
 omega
theorem lawP (x y:Int) (hx1:-9223372036854775808≤x) (hx2:x < 9223372036854775808) (hy1:-9223372036854775808≤y) (hy2:y < 9223372036854775808) (w:World) :
 Calls Tryz.prog 25 #[.int .i64 x,.int .i64 y] w (GivesPt w (Rat.divInt x 1) (Rat.divInt y 1) 1):=by
 have HX:=Lib.hid (int_fits hx1 hx2)
 have HY:=Lib.hid (int_fits hy1 hy2)
 have H1:=Lib.hid hx1;have H2:=Lib.hid hx2;have H3:=Lib.hid hy1;have H4:=Lib.hid hy2;clear hx1 hx2 hy1 hy2
 go_enter Tryz.func25,Tryz.ntmps25
 go_upto_region 1 with (fail)
 generalize hW:World.alloc _ _=W
 obtain ⟨hb,Z,hzW⟩:=mkbx16_9 hW;clear hW
 go_wp2_with (first
  | (go_at_call 63;(with_reducible refine (rof6 x y H1.out H2.out H3.out H4.out _).mono ?_);rintro e w_r ⟨s_r,A_r,n_r,c_r,B_r,m_r,d_r,t_r,E_r,i_r,e_r,F_r,j_r,f_r,rfl,r,hh⟩
     (try replace Z:=Z.below hh);replace hb:=bend hb hh)
  | (go_at_call 62;(with_reducible refine (rout6 r (by decide) 1 HX.out.1 HX.out.2 HY.out.1 HY.out.2).mono ?_);rintro e w_u ⟨s_u,A_u,n_u,c_u,B_u,m_u,d_u,t_u,E_u,i_u,e_u,F_u,j_u,f_u,rfl,u,hh⟩
     (try replace Z:=Z.below hh);replace hb:=bend hb hh;have zg0:=Z.f0;have zg1:=Z.f1;have zg2:=Z.f2;have zg3:=Z.f3;have zg4:=Z.f4;have zg5:=Z.f5;obtain ⟨zc0,zc1,zc2,zc3,zc4,zc5⟩:=Z.all))
 have Z2:=Z.set6 (.bool s_u) (.slice A_u n_u c_u) (.slice B_u m_u d_u) (.bool t_u) (.slice E_u i_u e_u) (.slice F_u j_u f_u)
 obtain ⟨g0,g1,g2,g3,g4,g5⟩:=Z2.all
 refine bodyPost_ret (v:=.agg #[.bool s_u,.slice A_u n_u c_u,.slice B_u m_u d_u,.bool t_u,.slice E_u i_u e_u,.slice F_u j_u f_u]) (by simp [results,Tryz.results25,go_sem,g0,g1,g2,g3,g4,g5]) rfl ?_
 exact ⟨s_u,A_u,n_u,c_u,B_u,m_u,d_u,t_u,E_u,i_u,e_u,F_u,j_u,f_u,rfl,u.set6 Z _ _ _ _ _ _,below_set6 hb (by omega) _ _ _ _ _ _⟩
def BL2 (W:World) (g:Nat) (v0:Value) (v1:Value) (v2:Value) (v3:Value) (v4:Value) (v5:Value) (v6:Value) (v7:Value) (v8:Value) (v9:Value) (v10:Value) (v11:Value):Prop:=W.heap[g]?=some (.cells #[v0,v1,v2,v3,v4,v5,v6,v7,v8,v9,v10,v11] 49 (0,0))
section
variable {W W':World} {g:Nat} {v0 v1 v2 v3 v4 v5 v6 v7 v8 v9 v10 v11:Value}
theorem BL2.c0 (h:BL2 W g v0 v1 v2 v3 v4 v5 v6 v7 v8 v9 v10 v11):W.cell? ⟨g,0,none⟩=some v0:=by rw [cell_of_row W g 0 _ _ (0,0) h];rfl
theorem BL2.c1 (h:BL2 W g v0 v1 v2 v3 v4 v5 v6 v7 v8 v9 v10 v11):W.cell? ⟨g,1,none⟩=some v1:=by rw [cell_of_row W g 1 _ _ (0,0) h];rfl
theorem BL2.c2 (h:BL2 W g v0 v1 v2 v3 v4 v5 v6 v7 v8 v9 v10 v11):W.cell? ⟨g,2,none⟩=some v2:=by rw [cell_of_row W g 2 _ _ (0,0) h];rfl
theorem BL2.c3 (h:BL2 W g v0 v1 v2 v3 v4 v5 v6 v7 v8 v9 v10 v11):W.cell? ⟨g,3,none⟩=some v3:=by rw [cell_of_row W g 3 _ _ (0,0) h];rfl
theorem BL2.c4 (h:BL2 W g v0 v1 v2 v3 v4 v5 v6 v7 v8 v9 v10 v11):W.cell? ⟨g,4,none⟩=some v4:=by rw [cell_of_row W g 4 _ _ (0,0) h];rfl
theorem BL2.c5 (h:BL2 W g v0 v1 v2 v3 v4 v5 v6 v7 v8 v9 v10 v11):W.cell? ⟨g,5,none⟩=some v5:=by rw [cell_of_row W g 5 _ _ (0,0) h];rfl
theorem BL2.c6 (h:BL2 W g v0 v1 v2 v3 v4 v5 v6 v7 v8 v9 v10 v11):W.cell? ⟨g,6,none⟩=some v6:=by rw [cell_of_row W g 6 _ _ (0,0) h];rfl
theorem BL2.c7 (h:BL2 W g v0 v1 v2 v3 v4 v5 v6 v7 v8 v9 v10 v11):W.cell? ⟨g,7,none⟩=some v7:=by rw [cell_of_row W g 7 _ _ (0,0) h];rfl
theorem BL2.c8 (h:BL2 W g v0 v1 v2 v3 v4 v5 v6 v7 v8 v9 v10 v11):W.cell? ⟨g,8,none⟩=some v8:=by rw [cell_of_row W g 8 _ _ (0,0) h];rfl
theorem BL2.c9 (h:BL2 W g v0 v1 v2 v3 v4 v5 v6 v7 v8 v9 v10 v11):W.cell? ⟨g,9,none⟩=some v9:=by rw [cell_of_row W g 9 _ _ (0,0) h];rfl
theorem BL2.all (h:BL2 W g v0 v1 v2 v3 v4 v5 v6 v7 v8 v9 v10 v11):W.cell? ⟨g,0,none⟩=some v0∧W.cell? ⟨g,1,none⟩=some v1∧W.cell? ⟨g,2,none⟩=some v2∧W.cell? ⟨g,3,none⟩=some v3∧W.cell? ⟨g,4,none⟩=some v4∧W.cell? ⟨g,5,none⟩=some v5∧W.cell? ⟨g,6,none⟩=some v6∧W.cell? ⟨g,7,none⟩=some v7∧W.cell? ⟨g,8,none⟩=some v8∧W.cell? ⟨g,9,none⟩=some v9:=⟨h.c0,h.c1,h.c2,h.c3,h.c4,h.c5,h.c6,h.c7,h.c8,h.c9⟩
theorem BL2.lt (h:BL2 W g v0 v1 v2 v3 v4 v5 v6 v7 v8 v9 v10 v11):g < W.heap.size:=World.block_lt_of_cell? W _ h.c0
theorem BL2.below (h:BL2 W g v0 v1 v2 v3 v4 v5 v6 v7 v8 v9 v10 v11) (hb:Below W.heap.size W W'):BL2 W' g v0 v1 v2 v3 v4 v5 v6 v7 v8 v9 v10 v11:=(hb.block g h.lt).trans h
theorem BL2.alloc (h:BL2 W g v0 v1 v2 v3 v4 v5 v6 v7 v8 v9 v10 v11) (o:Obj):BL2 (W.alloc o) g v0 v1 v2 v3 v4 v5 v6 v7 v8 v9 v10 v11:=(Below.heap_alloc W o g h.lt).trans h
end
theorem BL2.new' (W:World) (v0 v1 v2 v3 v4 v5 v6 v7 v8 v9 v10 v11:Value) (g:Nat) (hg:g=W.heap.size):BL2 (W.alloc (.cells #[v0,v1,v2,v3,v4,v5,v6,v7,v8,v9,v10,v11] 49)) g v0 v1 v2 v3 v4 v5 v6 v7 v8 v9 v10 v11:=by subst hg;exact heap_alloc_new W _
def BL3 (W:World) (g:Nat) (v0:Value) (v1:Value) (v2:Value) (v3:Value) (v4:Value) (v5:Value) (v6:Value) (v7:Value) (v8:Value) (v9:Value) (v10:Value) (v11:Value) (v12:Value) (v13:Value) (v14:Value) (v15:Value) (v16:Value) (v17:Value):Prop:=W.heap[g]?=some (.cells #[v0,v1,v2,v3,v4,v5,v6,v7,v8,v9,v10,v11,v12,v13,v14,v15,v16,v17] 49 (0,0))
section
variable {W W':World} {g:Nat} {v0 v1 v2 v3 v4 v5 v6 v7 v8 v9 v10 v11 v12 v13 v14 v15 v16 v17:Value}
theorem BL3.c0 (h:BL3 W g v0 v1 v2 v3 v4 v5 v6 v7 v8 v9 v10 v11 v12 v13 v14 v15 v16 v17):W.cell? ⟨g,0,none⟩=some v0:=by rw [cell_of_row W g 0 _ _ (0,0) h];rfl
theorem BL3.c1 (h:BL3 W g v0 v1 v2 v3 v4 v5 v6 v7 v8 v9 v10 v11 v12 v13 v14 v15 v16 v17):W.cell? ⟨g,1,none⟩=some v1:=by rw [cell_of_row W g 1 _ _ (0,0) h];rfl
theorem BL3.c2 (h:BL3 W g v0 v1 v2 v3 v4 v5 v6 v7 v8 v9 v10 v11 v12 v13 v14 v15 v16 v17):W.cell? ⟨g,2,none⟩=some v2:=by rw [cell_of_row W g 2 _ _ (0,0) h];rfl
theorem BL3.c3 (h:BL3 W g v0 v1 v2 v3 v4 v5 v6 v7 v8 v9 v10 v11 v12 v13 v14 v15 v16 v17):W.cell? ⟨g,3,none⟩=some v3:=by rw [cell_of_row W g 3 _ _ (0,0) h];rfl
theorem BL3.c4 (h:BL3 W g v0 v1 v2 v3 v4 v5 v6 v7 v8 v9 v10 v11 v12 v13 v14 v15 v16 v17):W.cell? ⟨g,4,none⟩=some v4:=by rw [cell_of_row W g 4 _ _ (0,0) h];rfl
theorem BL3.c5 (h:BL3 W g v0 v1 v2 v3 v4 v5 v6 v7 v8 v9 v10 v11 v12 v13 v14 v15 v16 v17):W.cell? ⟨g,5,none⟩=some v5:=by rw [cell_of_row W g 5 _ _ (0,0) h];rfl
theorem BL3.c6 (h:BL3 W g v0 v1 v2 v3 v4 v5 v6 v7 v8 v9 v10 v11 v12 v13 v14 v15 v16 v17):W.cell? ⟨g,6,none⟩=some v6:=by rw [cell_of_row W g 6 _ _ (0,0) h];rfl
theorem BL3.c7 (h:BL3 W g v0 v1 v2 v3 v4 v5 v6 v7 v8 v9 v10 v11 v12 v13 v14 v15 v16 v17):W.cell? ⟨g,7,none⟩=some v7:=by rw [cell_of_row W g 7 _ _ (0,0) h];rfl
theorem BL3.c8 (h:BL3 W g v0 v1 v2 v3 v4 v5 v6 v7 v8 v9 v10 v11 v12 v13 v14 v15 v16 v17):W.cell? ⟨g,8,none⟩=some v8:=by rw [cell_of_row W g 8 _ _ (0,0) h];rfl
theorem BL3.c9 (h:BL3 W g v0 v1 v2 v3 v4 v5 v6 v7 v8 v9 v10 v11 v12 v13 v14 v15 v16 v17):W.cell? ⟨g,9,none⟩=some v9:=by rw [cell_of_row W g 9 _ _ (0,0) h];rfl
theorem BL3.all (h:BL3 W g v0 v1 v2 v3 v4 v5 v6 v7 v8 v9 v10 v11 v12 v13 v14 v15 v16 v17):W.cell? ⟨g,0,none⟩=some v0∧W.cell? ⟨g,1,none⟩=some v1∧W.cell? ⟨g,2,none⟩=some v2∧W.cell? ⟨g,3,none⟩=some v3∧W.cell? ⟨g,4,none⟩=some v4∧W.cell? ⟨g,5,none⟩=some v5∧W.cell? ⟨g,6,none⟩=some v6∧W.cell? ⟨g,7,none⟩=some v7∧W.cell? ⟨g,8,none⟩=some v8∧W.cell? ⟨g,9,none⟩=some v9:=⟨h.c0,h.c1,h.c2,h.c3,h.c4,h.c5,h.c6,h.c7,h.c8,h.c9⟩
theorem BL3.lt (h:BL3 W g v0 v1 v2 v3 v4 v5 v6 v7 v8 v9 v10 v11 v12 v13 v14 v15 v16 v17):g < W.heap.size:=World.block_lt_of_cell? W _ h.c0
theorem BL3.below (h:BL3 W g v0 v1 v2 v3 v4 v5 v6 v7 v8 v9 v10 v11 v12 v13 v14 v15 v16 v17) (hb:Below W.heap.size W W'):BL3 W' g v0 v1 v2 v3 v4 v5 v6 v7 v8 v9 v10 v11 v12 v13 v14 v15 v16 v17:=(hb.block g h.lt).trans h
theorem BL3.alloc (h:BL3 W g v0 v1 v2 v3 v4 v5 v6 v7 v8 v9 v10 v11 v12 v13 v14 v15 v16 v17) (o:Obj):BL3 (W.alloc o) g v0 v1 v2 v3 v4 v5 v6 v7 v8 v9 v10 v11 v12 v13 v14 v15 v16 v17:=(Below.heap_alloc W o g h.lt).trans h
end
theorem BL3.new' (W:World) (v0 v1 v2 v3 v4 v5 v6 v7 v8 v9 v10 v11 v12 v13 v14 v15 v16 v17:Value) (g:Nat) (hg:g=W.heap.size):BL3 (W.alloc (.cells #[v0,v1,v2,v3,v4,v5,v6,v7,v8,v9,v10,v11,v12,v13,v14,v15,v16,v17] 49)) g v0 v1 v2 v3 v4 v5 v6 v7 v8 v9 v10 v11 v12 v13 v14 v15 v16 v17:=by subst hg;exact heap_alloc_new W _
end
end Go.Proofs.YtlpogecpdfdggaaGreat
