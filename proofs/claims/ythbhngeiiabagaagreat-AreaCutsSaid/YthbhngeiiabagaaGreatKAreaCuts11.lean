/- AreaCuts: part 11. -/
import Derived.Deep.Cut
import Derived.Deep.CutRange
import Derived.Test.YthbhngeiiabagaaGreatKAreaCuts6
import Derived.Test.YthbhngeiiabagaaGreatKAreaCuts7
import Derived.Test.YthbhngeiiabagaaGreatKAreaCuts8
import Derived.Test.YthbhngeiiabagaaGreatKAreaCuts9
import Derived.Test.YthbhngeiiabagaaGreatKAreaCuts10
set_option linter.unusedVariables false
set_option maxRecDepth 100000
set_option maxHeartbeats 16000000
variable {w:Go.World}
namespace Go.Proofs.YthbhngeiiabagaaGreat
section
open Go Go.RowKit
structure QbU where
 ia:Nat
 is:Nat
 tA:Nat
 T:TypeId
 zs:Array Value
 Fst:Array Value→World→Prop
structure QqV (ops:Array Oper) (w0:World) (L:List QbU) (F:Nat→Value→World→Prop) (D:Nat→Bool) (v:Nat→Value) (w':World):Prop where
 below:Below w0.heap.size w0 w'
 vals:∀ (i:Nat) (o:Oper) (t:Nat),ops[i]?=some o→o.dst=some t→(∀ p ∈ L,t ≠ p.tA)→D i=true→F t (v t) w'
 box:∀ p ∈ L,D p.ia=true→∃ g cs,v p.tA=.pointer (some ⟨g,0,none⟩)∧w0.heap.size≤g∧BoxAt p.T w' g cs∧(D p.is=true→p.Fst cs w')∧(D p.is=false→cs=p.zs)
 after:∀ p ∈ L,D p.is=true→D p.ia=true
 apart:∀ p ∈ L,∀ q ∈ L,p.tA ≠ q.tA→D p.ia=true→D q.ia=true→v p.tA ≠ v q.tA
section
variable {P:Program} {ops:Array Oper} {Q:Exit→Act→World→Prop}
structure BoxIn (P:Program) (ops:Array Oper) (p:QbU):Prop where
 alloc:∃ oa,ops[p.ia]?=some oa∧oa.dst=some p.tA∧oa.guard=none∧∀ (e:Operand→Value) (w':World),(execOp e oa).run P w'=.ok (.value (.pointer (some ⟨w'.heap.size,0,none⟩))) (w'.alloc (.cells p.zs p.T))
 fill:∃ os,ops[p.is]?=some os∧os.dst=none∧os.guard=none∧∃ e ∈ os.after,Region.binds .any e=true∧e.on=p.ia
 free:∀ (i:Nat) (k:IntKind) (x:Int),p.zs[i]? ≠ some (Value.int k x)
 stays:∀ cs w w',p.Fst cs w→Below w.heap.size w w'→p.Fst cs w'
 stays2:∀ (T:TypeId) cs w w' g c0,p.Fst cs w→BoxAt T w g c0→Only g w w'→p.Fst cs w'
theorem Qhc {id:Nat} {a:Act} {w0:World} (l:List Nat) (L:List QbU) (F:Nat→Value→World→Prop)
 (hm:P.follows .mixedOrders=true) (hb:Qmp ops=true) (hl:ops.toList.filterMap (·.dst)=l) (hn:l.Nodup)
 (hL:∀ p ∈ L,BoxIn P ops p) (hT:∀ p ∈ L,∀ q ∈ L,p.tA=q.tA→p=q) (hS:∀ p ∈ L,∀ q ∈ L,p.is=q.is→p=q)
 (hone:∀ (i:Nat) (o:Oper),ops[i]?=some o→o.dst=none→∃ p ∈ L,p.is=i) (hst:∀ t,Stays (F t))
 (hval:∀ (i:Nat) (o:Oper) (t:Nat) (v:Nat→Value) (w':World),ops[i]?=some o→(∀ p ∈ L,t ≠ p.tA)→o.dst=some t→Below w0.heap.size w0 w' →
  (∀ e ∈ o.after,Region.binds .any e=true→∀ (oe:Oper) (te:Nat),ops[e.on]?=some oe→oe.dst=some te→(∀ p ∈ L,te ≠ p.tA)→F te (v te) w') →
  wpOp P ops Q i (fun a'' w''=>∃ x,a''=(Qam a l v).put (some t) x∧Below w'.heap.size w' w''∧F t x w'') (Qam a l v) w')
 (hstore:∀ p ∈ L,∀ (os:Oper) (v:Nat→Value) (w':World) (g:Nat),ops[p.is]?=some os→Below w0.heap.size w0 w'→v p.tA=.pointer (some ⟨g,0,none⟩)→BoxAt p.T w' g p.zs →
  (∀ e ∈ os.after,Region.binds .any e=true→∀ (oe:Oper) (te:Nat),ops[e.on]?=some oe→oe.dst=some te→(∀ p ∈ L,te ≠ p.tA)→F te (v te) w') →
  os.wp P (Qam a l v) w' (fun a'' w''=>a''=Qam a l v∧Only g w' w''∧∃ cs',BoxAt p.T w'' g cs'∧p.Fst cs' w'') Q)
 (hend:∀ (v:Nat→Value) (w':World),Below w0.heap.size w0 w'→(∀ (i:Nat) (o:Oper) (t:Nat),ops[i]?=some o→o.dst=some t→(∀ p ∈ L,t ≠ p.tA)→F t (v t) w') →
  (∀ p ∈ L,∃ g cs,v p.tA=.pointer (some ⟨g,0,none⟩)∧w0.heap.size≤g∧BoxAt p.T w' g cs∧p.Fst cs w')→(∀ p ∈ L,∀ q ∈ L,p.tA ≠ q.tA→v p.tA ≠ v q.tA)→Q .normal (Qam a l v) w') :
 (Code.region id ops true).wp P Q a w0:=by
 have lt_of:∀ {i:Nat} {o:Oper},ops[i]?=some o→i < ops.size:=fun {i o} h=>by
  rcases Nat.lt_or_ge i ops.size with k | k
  · exact k
  · rw [Array.getElem?_eq_none k] at h;cases h
 have hmem:∀ {i:Nat} {o:Oper} {t:Nat},ops[i]?=some o→o.dst=some t→t ∈ l:=fun {i o t} h d=>by
  rw [← hl];exact List.mem_filterMap.2 ⟨o,List.mem_of_getElem? (by simpa using h),d⟩
 have hinj:∀ {i j:Nat} {oi oj:Oper} {t:Nat},ops[i]?=some oi→ops[j]?=some oj→oi.dst=some t→oj.dst=some t→i=j:=fun {i j oi oj t} h1 h2 d1 d2 =>
  QkQ (l:=ops.toList) (by rw [hl];exact hn) (by simpa using h1) (by simpa using h2) d1 d2
 -- a filling operation is no making one,and none that tells a value
 have his:∀ p ∈ L,∀ (i:Nat) (o:Oper) (t:Nat),ops[i]?=some o→o.dst=some t→p.is ≠ i:=by
  intro p hp i o t ho ht q
  obtain ⟨os,h1,h2,_⟩:=(hL p hp).fill
  subst q
  rw [h1] at ho
  cases ho
  rw [h2] at ht
  cases ht
 refine Qdm l (QqV ops w0 L F) hm hb ?_ ?_ ?_ ?_
 · refine ⟨(Below.refl _ _).drew,?_,?_,?_,?_⟩
   · intro i o t _ _ _ h;exact absurd (show false=true from h) (by decide)
   · intro p _ h;exact absurd (show false=true from h) (by decide)
   · intro p _ h;exact absurd (show false=true from h) (by decide)
   · intro p _ q _ _ h;exact absurd (show false=true from h) (by decide)
 · intro D D' v w hD h
   have ea:∀ p ∈ L,D p.ia=D' p.ia:=fun p hp=>by obtain ⟨oa,h1,_⟩:=(hL p hp).alloc;exact hD _ (lt_of h1)
   have es:∀ p ∈ L,D p.is=D' p.is:=fun p hp=>by obtain ⟨os,h1,_⟩:=(hL p hp).fill;exact hD _ (lt_of h1)
   refine ⟨h.below,fun i o t hi ht hne hd=>h.vals i o t hi ht hne (by rw [hD i (lt_of hi)];exact hd),?_,?_,?_⟩
   · intro p hp;rw [← ea p hp,← es p hp];exact h.box p hp
   · intro p hp;rw [← ea p hp,← es p hp];exact h.after p hp
   · intro p hp q hq;rw [← ea p hp,← ea q hq];exact h.apart p hp q hq
 · intro i o D v w' ho hDi hall J
   cases hd:o.dst with
   | none =>
     obtain ⟨p,hp,rfl⟩:=hone i o ho hd
     obtain ⟨os,h1,h2,hgs,e,he,hbd,hon⟩:=(hL p hp).fill
     rw [h1] at ho
     cases ho
     have hDa:D p.ia=true:=by rw [← hon];exact hall e he hbd
     obtain ⟨g,cs,p1,p2,p3,_,pz⟩:=J.box p hp hDa
     obtain rfl:=pz hDi
     refine Qaa h1 hgs ?_
     refine Oper.wp_mono ?_ (hstore p hp _ v w' g h1 J.below p1 p3 (fun e he hb' oe te h1 h2 h3=>J.vals e.on oe te h1 h2 h3 (hall e he hb')))
     rintro a'' w'' ⟨rfl,ho2,cs',hB,hF⟩
     have nia:∀ q ∈ L,q.ia ≠ p.is:=fun q hq k=>by
      obtain ⟨oa,k1,k2,_⟩:=(hL q hq).alloc
      exact his p hp q.ia oa q.tA k1 k2 k.symm
     refine ⟨v,rfl,Below.only J.below p2 J.below.size ho2,?_,?_,?_,?_⟩
     · intro j oj t hj ht hne hd2
       have hji:j ≠ p.is:=fun q=>his p hp j oj t hj ht q.symm
       rw [Qar _ _ hji] at hd2
       exact (hst t).2 _ _ _ _ _ _ (J.vals j oj t hj ht hne hd2) p3 ho2
     · intro q hq hDq
       rw [Qar _ _ (nia q hq)] at hDq
       by_cases hpq:q.tA=p.tA
       · obtain rfl:=hT q hq p hp hpq
         exact ⟨g,cs',p1,p2,hB,fun _=>hF,fun k=>by rw [Qbc] at k;cases k⟩
       · obtain ⟨g2,cs2,r1,r2,r3,r4,r5⟩:=J.box q hq hDq
         have hgg:g2 ≠ g:=fun k=>J.apart q hq p hp hpq hDq hDa (by rw [r1,p1,k])
         have hss:q.is ≠ p.is:=fun k=>hpq (by rw [hS q hq p hp k])
         refine ⟨g2,cs2,r1,r2,⟨(ho2.block g2 r3.lt hgg).trans r3.at_,r3.free⟩,fun k=>?_,fun k=>?_⟩
         · rw [Qar _ _ hss] at k
           exact (hL q hq).stays2 _ _ _ _ _ _ (r4 k) p3 ho2
         · rw [Qar _ _ hss] at k
           exact r5 k
     · intro q hq k
       rw [Qar _ _ (nia q hq)]
       by_cases hss:q.is=p.is
       · obtain rfl:=hS q hq p hp hss
         exact hDa
       · rw [Qar _ _ hss] at k
         exact J.after q hq k
     · intro q hq r hr hne k1 k2
       rw [Qar _ _ (nia q hq)] at k1
       rw [Qar _ _ (nia r hr)] at k2
       exact J.apart q hq r hr hne k1 k2
   | some t =>
     have nis:∀ q ∈ L,q.is ≠ i:=fun q hq=>his q hq i o t ho hd
     by_cases hA:∃ p ∈ L,t=p.tA
     · obtain ⟨p,hp,rfl⟩:=hA
       obtain ⟨oa,h1,h2,hga,halloc⟩:=(hL p hp).alloc
       have hii:i=p.ia:=hinj ho h1 hd h2
       subst hii
       rw [h1] at ho
       cases ho
       refine Qaa h1 hga ?_
       unfold Oper.wp
       rw [halloc,Oper.upon_value,h2]
       have hbl:=(Below.refl w'.heap.size w').alloc (Nat.le_refl _) (.cells p.zs p.T)
       have hnew:∀ q ∈ L,q.tA ≠ p.tA→q.ia ≠ p.ia:=fun q hq k r=>by
        obtain ⟨ob,k1,k2,_⟩:=(hL q hq).alloc
        rw [r,h1] at k1
        cases k1
        rw [h2] at k2
        exact k (Option.some.inj k2).symm
       refine ⟨_,Qcr _ _ _ _ _ hn (hmem h1 h2),J.below.trans (hbl.mono J.below.size),?_,?_,?_,?_⟩
       · intro j oj t hj ht hne hd2
         have htp:=hne p hp
         have hji:j ≠ p.ia:=fun q=>htp (by subst q;rw [h1] at hj;cases hj;rw [h2] at ht;cases ht;rfl)
         rw [Qar _ _ hji] at hd2;rw [Qar _ _ htp]
         exact (hst t).1 _ _ _ (J.vals j oj t hj ht hne hd2) hbl
       · intro q hq hDq
         by_cases hqp:q.tA=p.tA
         · obtain rfl:=hT q hq p hp hqp
           refine ⟨w'.heap.size,q.zs,Qbc _ _ _,J.below.size,⟨heap_alloc_new _ _,(hL q hq).free⟩,fun h=>?_,fun _=>rfl⟩
           rw [Qar _ _ (nis q hq)] at h
           have:=J.after q hq h
           rw [hDi] at this
           cases this
         · rw [Qar _ _ (hnew q hq hqp)] at hDq
           obtain ⟨g,cs,r1,r2,r3,r4,r5⟩:=J.box q hq hDq
           refine ⟨g,cs,by rw [Qar _ _ hqp];exact r1,r2,r3.below hbl,fun h=>?_,fun h=>?_⟩
           · rw [Qar _ _ (nis q hq)] at h
             exact (hL q hq).stays _ _ _ (r4 h) hbl
           · rw [Qar _ _ (nis q hq)] at h
             exact r5 h
       · intro q hq h
         rw [Qar _ _ (nis q hq)] at h
         by_cases hqp:q.tA=p.tA
         · obtain rfl:=hT q hq p hp hqp
           rw [Qbc]
         · rw [Qar _ _ (hnew q hq hqp)]
           exact J.after q hq h
       · intro q hq r hr hne k1 k2
         by_cases hqp:q.tA=p.tA
         · obtain rfl:=hT q hq p hp hqp
           have hrp:r.tA ≠ q.tA:=Ne.symm hne
           rw [Qar _ _ (hnew r hr hrp)] at k2
           obtain ⟨g,cs,r1,_,r3,_⟩:=J.box r hr k2
           rw [Qbc,Qar _ _ hrp,r1]
           intro k
           simp only [Value.pointer.injEq,Option.some.injEq,Addr.mk.injEq] at k
           have:=r3.lt
           omega
         · rw [Qar _ _ (hnew q hq hqp)] at k1
           by_cases hrp:r.tA=p.tA
           · obtain rfl:=hT r hr p hp hrp
             obtain ⟨g,cs,r1,_,r3,_⟩:=J.box q hq k1
             rw [Qbc,Qar _ _ hqp,r1]
             intro k
             simp only [Value.pointer.injEq,Option.some.injEq,Addr.mk.injEq] at k
             have:=r3.lt
             omega
           · rw [Qar _ _ (hnew r hr hrp)] at k2
             rw [Qar _ _ hqp,Qar _ _ hrp]
             exact J.apart q hq r hr hne k1 k2
     · have htA:∀ p ∈ L,t ≠ p.tA:=fun p hp k=>hA ⟨p,hp,k⟩
       have nia:∀ q ∈ L,q.ia ≠ i:=fun q hq k=>by
        obtain ⟨oa,k1,k2,_⟩:=(hL q hq).alloc
        rw [k,ho] at k1
        cases k1
        rw [hd] at k2
        cases k2
        exact htA q hq rfl
       refine wpOp_mono ?_ (hval i o t v w' ho htA hd J.below (fun e he hb' oe te h1 h2 h3=>J.vals e.on oe te h1 h2 h3 (hall e he hb')))
       rintro a'' w'' ⟨x,rfl,hbl,hF⟩
       refine ⟨_,Qcr _ _ _ _ _ hn (hmem ho hd),J.below.trans (hbl.mono J.below.size),?_,?_,?_,?_⟩
       · intro j oj t' hj ht hne hd2
         by_cases hji:j=i
         · subst hji
           rw [ho] at hj
           cases hj
           rw [hd] at ht
           cases ht
           rw [Qbc]
           exact hF
         · rw [Qar _ _ hji] at hd2
           have htt:t' ≠ t:=fun q=>hji (by subst q;exact hinj hj ho ht hd)
           rw [Qar _ _ htt]
           exact (hst t').1 _ _ _ (J.vals j oj t' hj ht hne hd2) hbl
       · intro q hq hDq
         rw [Qar _ _ (nia q hq)] at hDq
         obtain ⟨g,cs,r1,r2,r3,r4,r5⟩:=J.box q hq hDq
         refine ⟨g,cs,by rw [Qar _ _ (Ne.symm (htA q hq))];exact r1,r2,r3.below hbl,fun h=>?_,fun h=>?_⟩
         · rw [Qar _ _ (nis q hq)] at h
           exact (hL q hq).stays _ _ _ (r4 h) hbl
         · rw [Qar _ _ (nis q hq)] at h
           exact r5 h
       · intro q hq h
         rw [Qar _ _ (nis q hq)] at h
         rw [Qar _ _ (nia q hq)]
         exact J.after q hq h
       · intro q hq r hr hne k1 k2
         rw [Qar _ _ (nia q hq)] at k1
         rw [Qar _ _ (nia r hr)] at k2
         rw [Qar _ _ (Ne.symm (htA q hq)),Qar _ _ (Ne.symm (htA r hr))]
         exact J.apart q hq r hr hne k1 k2
 · intro D v w' hall J
   refine hend v w' J.below (fun i o t hi ht hne=>J.vals i o t hi ht hne (hall i (lt_of hi))) ?_ ?_
   · intro p hp
     obtain ⟨oa,h1,_⟩:=(hL p hp).alloc
     obtain ⟨os,h2,_⟩:=(hL p hp).fill
     obtain ⟨g,cs,r1,r2,r3,r4,_⟩:=J.box p hp (hall _ (lt_of h1))
     exact ⟨g,cs,r1,r2,r3,r4 (hall _ (lt_of h2))⟩
   · intro p hp q hq hne
     obtain ⟨oa,h1,_⟩:=(hL p hp).alloc
     obtain ⟨ob,h2,_⟩:=(hL q hq).alloc
     exact J.apart p hp q hq hne (hall _ (lt_of h1)) (hall _ (lt_of h2))
end
end
section
open Go Go.RowKit
def B3R (W:World) (g:Nat) (x y z:Value):Prop:=W.heap[g]?=some (.cells #[x,y,z] 42 (0,0))
section
variable {W W':World} {g:Nat} {x y z:Value}
theorem B3R.c0 (h:B3R W g x y z):W.cell? ⟨g,0,none⟩=some x:=by rw [cell_of_row W g 0 _ _ (0,0) h];rfl
theorem B3R.c1 (h:B3R W g x y z):W.cell? ⟨g,1,none⟩=some y:=by rw [cell_of_row W g 1 _ _ (0,0) h];rfl
theorem B3R.c2 (h:B3R W g x y z):W.cell? ⟨g,2,none⟩=some z:=by rw [cell_of_row W g 2 _ _ (0,0) h];rfl
theorem B3R.all (h:B3R W g x y z):W.cell? ⟨g,0,none⟩=some x∧W.cell? ⟨g,1,none⟩=some y∧W.cell? ⟨g,2,none⟩=some z:=⟨h.c0,h.c1,h.c2⟩
theorem B3R.f0 (h:B3R W g x y z):W.frozen? ⟨g,0,none⟩=false:=frozen_of_row W g 0 _ _ h
theorem B3R.f1 (h:B3R W g x y z):W.frozen? ⟨g,1,none⟩=false:=frozen_of_row W g 1 _ _ h
theorem B3R.f2 (h:B3R W g x y z):W.frozen? ⟨g,2,none⟩=false:=frozen_of_row W g 2 _ _ h
theorem B3R.lt (h:B3R W g x y z):g < W.heap.size:=World.block_lt_of_cell? W _ h.c0
theorem B3R.below (h:B3R W g x y z) (hb:Below W.heap.size W W'):B3R W' g x y z:=(hb.block g h.lt).trans h
theorem B3R.alloc (h:B3R W g x y z) (o:Obj):B3R (W.alloc o) g x y z:=(Below.heap_alloc W o g h.lt).trans h
theorem B3R.new' (W:World) (x y z:Value) (g:Nat) (hg:g=W.heap.size):B3R (W.alloc (.cells #[x,y,z] 42)) g x y z:=by subst hg;exact heap_alloc_new W _
theorem B3R.set3 (h:B3R W g x y z) (a b c:Value):B3R (((W.setCell ⟨g,0,none⟩ a).setCell ⟨g,1,none⟩ b).setCell ⟨g,2,none⟩ c) g a b c:=by
 unfold B3R at h ⊢
 simp [World.setCell,Array.getElem?_modify,h]
theorem B3R.offx {s:Bool} {A A1 A2:Option Addr} {n n1 n2 c1 c2:Nat} {K:IntKind} {l:List Nat} (h:B3R W g (.bool s) (.slice A1 n1 c1) (.slice A2 n2 c2)) (hr:Rd K W A n l):Off A n g:=by
 intro hn ad e hg
 obtain ⟨b,o,eA,hc⟩:=hr.at_ hn
 obtain ⟨x,_,hx⟩:=hc 0 hn
 rw [eA] at e
 cases e
 have hg2:b=g:=hg
 subst hg2
 rw [cell_of_row W b (o+0) _ _ (0,0) h] at hx
 match o,hx with
 | 0,hx=>cases hx
 | 1,hx=>cases hx
 | 2,hx=>cases hx
 | o+3,hx=>cases hx
end
def RQ (w:World) (s:Bool) (A:Option Addr) (n c:Nat) (A':Option Addr) (n' c':Nat) (v:Rat) (k:Nat):Prop:=RG w s A n c v.num k∧RN w A' n' c' v.den k
def Qcm (w:World) (v:Rat) (k:Nat) (e:Ending) (w':World):Prop :=
 ∃ s A n c A' n' c',e=.returned (.agg #[.bool s,.slice A n c,.slice A' n' c'])∧RQ w' s A n c A' n' c' v k∧Below w.heap.size w w'
section
variable {w w':World} {s:Bool} {A A':Option Addr} {n c n' c' k g:Nat} {v:Rat}
theorem RQ.below (h:RQ w s A n c A' n' c' v k) (hb:Below w.heap.size w w'):RQ w' s A n c A' n' c' v k:=⟨h.1.below hb,h.2.below hb⟩
theorem RN.only {V:Nat} (h:RN w A n c V k) (ho:Off A n g) (hb:Only g w w'):RN w' A n c V k:=⟨h.1.only ho hb,h.2⟩
theorem RG.only {V:Int} (h:RG w s A n c V k) (ho:Off A n g) (hb:Only g w w'):RG w' s A n c V k:=⟨h.1,h.2.only ho hb⟩
theorem RG.rn {V:Int} (h:RG w s A n c V k):RN w A n c V.natAbs k:=h.2
theorem RQ.set3 {t:Bool} {A1 A2:Option Addr} {n1 c1 n2 c2:Nat} (h:RQ w s A n c A' n' c' v k) (Z:B3R w g (.bool t) (.slice A1 n1 c1) (.slice A2 n2 c2)) (x y z:Value) :
 RQ (((w.setCell ⟨g,0,none⟩ x).setCell ⟨g,1,none⟩ y).setCell ⟨g,2,none⟩ z) s A n c A' n' c' v k:=by
 have ho:Only g w (((w.setCell ⟨g,0,none⟩ x).setCell ⟨g,1,none⟩ y).setCell ⟨g,2,none⟩ z):=(((Only.refl g w).setCell 0 _).setCell 1 _).setCell 2 _
 exact ⟨h.1.only (Z.offx h.1.2.1) ho,h.2.only (Z.offx h.2.1) ho⟩
end
theorem QgX {p:Int} {q:Nat} (hq:q ≠ 0):(mkRat p q).num.natAbs=p.natAbs / Nat.gcd p.natAbs q∧(mkRat p q).den=q / Nat.gcd p.natAbs q∧((mkRat p q).num < 0 ↔ p < 0):=by
 have h0:(q:Int) ≠ 0:=by omega
 have h1:=QoO (p:=p) h0
 have h2:=QnG (p:=p) h0
 rw [Rat.divInt_ofNat] at h1 h2
 simp only [Int.natAbs_natCast] at h1 h2
 exact ⟨h1,h2,by rw [Qgg,QkX hq]⟩
theorem QgW {w W:World} {x0 x1 x2 x3 x4:Value} (h:((w.alloc (Obj.cells #[x0,x1] 40)).alloc (Obj.cells #[x2,x3,x4] 42))=W):Below w.heap.size w W∧By W (w.heap.size) x0 x1∧B3R W (w.heap.size+1) x2 x3 x4∧W.heap.size=w.heap.size+2:=by subst h;exact ⟨by exact (((Below.refl _ _).alloc (Nat.le_refl _) _).alloc (by simp) _),by exact (By.new' _ _ _ _ rfl).alloc _,by exact B3R.new' _ _ _ _ _ (by simp),by simp⟩
theorem Qpi {s:Bool} {A B:Option Addr} {n c m d k q:Nat} {p:Int} (X:RG w s A n c p k) (Y:RN w B m d q k) (hk:k≤100000) (hq:q ≠ 0) (hg:Nat.gcd p.natAbs q=1) :
 Calls Tryz.prog 56 #[.agg #[.bool s,.slice A n c],.slice B m d] w (Qcm w (mkRat p q) k):=by
 have HG:=Lib.hid hg
 have hm:=QgX (p:=p) hq
 rw [hg,Nat.div_one,Nat.div_one] at hm
 have HM:=Lib.hid hm;clear hg hm
 go_enter Tryz.func56,Tryz.ntmps56
 go_wp2_with fail
 generalize hW:World.alloc _ _=W
 obtain ⟨hb,XP,Z,hzW⟩:=QgW hW;clear hW;replace X:=X.below hb;replace Y:=Y.below hb;obtain ⟨xp0,xp1⟩:=XP.all
 go_upto_region 2 with (first
  | (go_at_call 94;(with_reducible refine (Qkt X.rn Y (by omega)).mono ?_);rintro e w_g ⟨A_g,n_g,c_g,rfl,g,hh⟩
     rw [HG.out] at g;(try replace X:=X.below hh);(try replace Y:=Y.below hh);(try replace x:=x.below hh);(try replace y:=y.below hh);(try replace XP:=XP.below hh);(try replace Z:=Z.below hh);replace hb:=Qaj hb hh;obtain ⟨xp0,xp1⟩:=XP.all))
 have hl:Qaf B32 1=[1]:=QbT Qah (by decide) (by decide)
 have hg1:=g.1;rw [hl] at hg1
 have hn:1=n_g:=hg1.1
 subst hn
 obtain ⟨gb,go,rfl,hgc⟩:=hg1.at_ (by decide)
 obtain ⟨gx,hgx,hgc0⟩:=hgc 0 (by decide)
 have hgx1:1=gx:=by simpa using hgx
 subst hgx1
 have hc1:w_g.cell? ⟨gb,go,none⟩=some (.int .u32 1):=by simpa using hgc0
 clear hgc hgx hgc0 hg1 hl g;have zf0:=Z.f0;have zf1:=Z.f1;have zf2:=Z.f2;obtain ⟨z0,z1,z2⟩:=Z.all
 go_wp2_with fail
 have Z2:=Z.set3 (.bool s) (.slice A n c) (.slice B m d)
 obtain ⟨g0,g1,g2⟩:=Z2.all
 refine bodyPost_ret (v:=.agg #[.bool s,.slice A n c,.slice B m d]) (by simp [results,Tryz.results56,go_sem,g0,g1,g2]) rfl ?_
 have hm:=HM.out
 have hr:RQ w_g s A n c B m d (mkRat p q) k:=⟨⟨X.1.trans (by rw [decide_eq_decide];exact hm.2.2.symm),by rw [hm.1];exact X.rn⟩,by rw [hm.2.1];exact Y⟩
 exact ⟨s,_,_,_,_,_,_,rfl,hr.set3 Z _ _ _,Qao hb (by omega) _ _ _⟩
theorem Qp7 {s:Bool} {A B:Option Addr} {n c m d k q G:Nat} {p:Int} (X:RG w s A n c p k) (Y:RN w B m d q k) (hk:k≤100000) (hq:q ≠ 0) (hg:Nat.gcd p.natAbs q=G) (hG:B32≤G) :
 Calls Tryz.prog 56 #[.agg #[.bool s,.slice A n c],.slice B m d] w (Qcm w (mkRat p q) k):=by
 have HG:=Lib.hid hg
 have HG0:Hid (G ≠ 0):=by
  show G ≠ 0
  have:=Nat.gcd_pos_of_pos_right p.natAbs (Nat.pos_of_ne_zero hq)
  omega
 have hm:=QgX (p:=p) hq
 rw [hg] at hm;have HM:=Lib.hid hm;clear hg hm
 go_enter Tryz.func56,Tryz.ntmps56
 go_wp2_with fail
 generalize hW:World.alloc _ _=W
 obtain ⟨hb,XP,Z,hzW⟩:=QgW hW;clear hW;replace X:=X.below hb;replace Y:=Y.below hb;obtain ⟨xp0,xp1⟩:=XP.all
 go_upto_region 2 with (first
  | (go_at_call 94;(with_reducible refine (Qkt X.rn Y (by omega)).mono ?_);rintro e w_g ⟨A_g,n_g,c_g,rfl,g,hh⟩
     rw [HG.out] at g;(try replace X:=X.below hh);(try replace Y:=Y.below hh);(try replace x:=x.below hh);(try replace y:=y.below hh);(try replace XP:=XP.below hh);(try replace Z:=Z.below hh);replace hb:=Qaj hb hh;obtain ⟨xp0,xp1⟩:=XP.all))
 have hng:2≤n_g:=by
  rcases Nat.lt_or_ge n_g 2 with h | h
  · have h1:=Qa8 (Qag Qah G)
    rw [Qad Qah,g.1.1] at h1
    have h2:B32 ^ n_g≤B32 ^ 1:=Nat.pow_le_pow_right (by decide) (by omega)
    rw [Nat.pow_one] at h2
    omega
  · exact h
 have hn0:((n_g:Int) == 0)=false:=by simp;omega
 have hn1:((n_g:Int) == 1)=false:=by simp;omega
 clear hng hG
 have hfd:∀ (A:Option Addr) (n c:Nat) (A':Option Addr) (n' c':Nat) (w:World),(Instr.field 135 (.agg #[.slice A n c,.slice A' n' c']) 0).run Tryz.prog w=.ok (.slice A n c) w:=fun _ _ _ _ _ _ _=>by kernel_rfl
 go_upto_region 4 with (fail)
 replace X:=X.below (Below.refl _ _).drew
 replace Y:=Y.below (Below.refl _ _).drew
 replace g:=g.below (Below.refl _ _).drew
 replace XP:=XP.below (Below.refl _ _).drew
 replace Z:=Z.below (Below.refl _ _).drew
 replace hb:=hb.drew
 go_region_held3 (fun w'=>w'.cell? ⟨w.heap.size,0,none⟩=some (.bool s)∧w'.cell? ⟨w.heap.size,1,none⟩=some (.slice A n c))
  (first | with_reducible exact ⟨XP.c0,XP.c1⟩ | with_reducible exact ⟨(Qac _ _ _ _ _ _ _ (by omega)).trans XP.c0,(Qac _ _ _ _ _ _ _ (by omega)).trans XP.c1⟩)
  (first
  | (go_at_call 95;(with_reducible refine (Qi9 X.rn g (by omega) (by omega) HG0.out).mono ?_);rintro e w_x ⟨A_x,n_x,c_x,A_r,n_r,c_r,rfl,x,xr,hh⟩
     (try replace X:=X.below hh);(try replace Y:=Y.below hh);(try replace g:=g.below hh);(try replace y:=y.below hh);(try replace XP:=XP.below hh);(try replace Z:=Z.below hh);replace hb:=Qaj hb hh;have zf0:=Z.f0;have zf1:=Z.f1;have zf2:=Z.f2;obtain ⟨z0,z1,z2⟩:=Z.all)
  | (go_at_call 95;(with_reducible refine (Qi9 Y g (by omega) (by omega) HG0.out).mono ?_);rintro e w_y ⟨A_y,n_y,c_y,A_t,n_t,c_t,rfl,y,yr,hh⟩
     (try replace X:=X.below hh);(try replace Y:=Y.below hh);(try replace g:=g.below hh);(try replace x:=x.below hh);(try replace XP:=XP.below hh);(try replace Z:=Z.below hh);replace hb:=Qaj hb hh;have zf0:=Z.f0;have zf1:=Z.f1;have zf2:=Z.f2;obtain ⟨z0,z1,z2⟩:=Z.all))
 go_wp2_with fail
 have Z2:=Z.set3 (.bool s) (.slice A_x n_x c_x) (.slice A_y n_y c_y)
 obtain ⟨g0,g1,g2⟩:=Z2.all
 refine bodyPost_ret (v:=.agg #[.bool s,.slice A_x n_x c_x,.slice A_y n_y c_y]) (by simp [results,Tryz.results56,go_sem,g0,g1,g2]) rfl ?_
 have hm:=HM.out
 have hr:RQ w_y s A_x n_x c_x A_y n_y c_y (mkRat p q) k:=⟨⟨X.1.trans (by rw [decide_eq_decide];exact hm.2.2.symm),by rw [hm.1];exact x⟩,by rw [hm.2.1];exact y⟩
 exact ⟨s,_,_,_,_,_,_,rfl,hr.set3 Z _ _ _,Qao hb (by omega) _ _ _⟩
theorem Ql8 {s:Bool} {A B:Option Addr} {n c m d k q G:Nat} {p:Int} (X:RG w s A n c p k) (Y:RN w B m d q k) (hk:k≤100000) (hq:q ≠ 0) (hg:Nat.gcd p.natAbs q=G) (hG:G < B32) (hG1:G ≠ 1) :
 Calls Tryz.prog 56 #[.agg #[.bool s,.slice A n c],.slice B m d] w (Qcm w (mkRat p q) k):=by
 have HG:=Lib.hid hg
 have HG0:Hid (G ≠ 0):=by
  show G ≠ 0
  have:=Nat.gcd_pos_of_pos_right p.natAbs (Nat.pos_of_ne_zero hq)
  omega
 have hm:=QgX (p:=p) hq
 rw [hg] at hm;have HM:=Lib.hid hm;clear hg hm
 go_enter Tryz.func56,Tryz.ntmps56
 go_wp2_with fail
 generalize hW:World.alloc _ _=W
 obtain ⟨hb,XP,Z,hzW⟩:=QgW hW;clear hW;replace X:=X.below hb;replace Y:=Y.below hb;obtain ⟨xp0,xp1⟩:=XP.all
 go_upto_region 2 with (first
  | (go_at_call 94;(with_reducible refine (Qkt X.rn Y (by omega)).mono ?_);rintro e w_g ⟨A_g,n_g,c_g,rfl,g,hh⟩
     rw [HG.out] at g;(try replace X:=X.below hh);(try replace Y:=Y.below hh);(try replace x:=x.below hh);(try replace y:=y.below hh);(try replace XP:=XP.below hh);(try replace Z:=Z.below hh);replace hb:=Qaj hb hh;obtain ⟨xp0,xp1⟩:=XP.all))
 have hl:Qaf B32 G=[G]:=QbT Qah hG HG0.out
 have hg1:=g.1;rw [hl] at hg1
 have hn:1=n_g:=hg1.1
 subst hn
 obtain ⟨gb,go,eA,hgc⟩:=hg1.at_ (by decide)
 subst eA
 obtain ⟨gx,hgx,hgc0⟩:=hgc 0 (by decide)
 have hgx1:G=gx:=by simpa using hgx
 subst hgx1
 have hc1:w_g.cell? ⟨gb,go,none⟩=some (.int .u32 (G:Int)):=by simpa using hgc0
 have hG2:((G:Int) == 1)=false:=by simp;omega
 clear hgc hgx hgc0 hg1 hl hG hG1
 have hfd:∀ (A:Option Addr) (n c:Nat) (A':Option Addr) (n' c':Nat) (w:World),(Instr.field 135 (.agg #[.slice A n c,.slice A' n' c']) 0).run Tryz.prog w=.ok (.slice A n c) w:=fun _ _ _ _ _ _ _=>by kernel_rfl
 go_upto_region 4 with (fail)
 replace X:=X.below (Below.refl _ _).drew
 replace Y:=Y.below (Below.refl _ _).drew
 replace g:=g.below (Below.refl _ _).drew
 replace XP:=XP.below (Below.refl _ _).drew
 replace Z:=Z.below (Below.refl _ _).drew
 replace hb:=hb.drew
 go_region_held3 (fun w'=>w'.cell? ⟨w.heap.size,0,none⟩=some (.bool s)∧w'.cell? ⟨w.heap.size,1,none⟩=some (.slice A n c))
  (first | with_reducible exact ⟨XP.c0,XP.c1⟩ | with_reducible exact ⟨(Qac _ _ _ _ _ _ _ (by omega)).trans XP.c0,(Qac _ _ _ _ _ _ _ (by omega)).trans XP.c1⟩)
  (first
  | (go_at_call 95;(with_reducible refine (Qi9 X.rn g (by omega) (by omega) HG0.out).mono ?_);rintro e w_x ⟨A_x,n_x,c_x,A_r,n_r,c_r,rfl,x,xr,hh⟩
     (try replace X:=X.below hh);(try replace Y:=Y.below hh);(try replace g:=g.below hh);(try replace y:=y.below hh);(try replace XP:=XP.below hh);(try replace Z:=Z.below hh);replace hb:=Qaj hb hh;have zf0:=Z.f0;have zf1:=Z.f1;have zf2:=Z.f2;obtain ⟨z0,z1,z2⟩:=Z.all)
  | (go_at_call 95;(with_reducible refine (Qi9 Y g (by omega) (by omega) HG0.out).mono ?_);rintro e w_y ⟨A_y,n_y,c_y,A_t,n_t,c_t,rfl,y,yr,hh⟩
     (try replace X:=X.below hh);(try replace Y:=Y.below hh);(try replace g:=g.below hh);(try replace x:=x.below hh);(try replace XP:=XP.below hh);(try replace Z:=Z.below hh);replace hb:=Qaj hb hh;have zf0:=Z.f0;have zf1:=Z.f1;have zf2:=Z.f2;obtain ⟨z0,z1,z2⟩:=Z.all))
 go_wp2_with fail
 have Z2:=Z.set3 (.bool s) (.slice A_x n_x c_x) (.slice A_y n_y c_y)
 obtain ⟨g0,g1,g2⟩:=Z2.all
 refine bodyPost_ret (v:=.agg #[.bool s,.slice A_x n_x c_x,.slice A_y n_y c_y]) (by simp [results,Tryz.results56,go_sem,g0,g1,g2]) rfl ?_
 have hm:=HM.out
 have hr:RQ w_y s A_x n_x c_x A_y n_y c_y (mkRat p q) k:=⟨⟨X.1.trans (by rw [decide_eq_decide];exact hm.2.2.symm),by rw [hm.1];exact x⟩,by rw [hm.2.1];exact y⟩
 exact ⟨s,_,_,_,_,_,_,rfl,hr.set3 Z _ _ _,Qao hb (by omega) _ _ _⟩
theorem QdD {s:Bool} {A B:Option Addr} {n c m d k q:Nat} {p:Int} (X:RG w s A n c p k) (Y:RN w B m d q k) (hk:k≤100000) (hq:q ≠ 0) :
 Calls Tryz.prog 56 #[.agg #[.bool s,.slice A n c],.slice B m d] w (Qcm w (mkRat p q) k):=by
 by_cases h1:Nat.gcd p.natAbs q=1
 · exact Qpi X Y hk hq h1
 · rcases Nat.lt_or_ge (Nat.gcd p.natAbs q) B32 with h | h
   · exact Ql8 X Y hk hq rfl h h1
   · exact Qp7 X Y hk hq rfl h
end
section
theorem QoP (v u:Rat):Qdf u v=-Qdf v u:=by
 unfold Qdf
 by_cases h1:v < u <;> by_cases h2:u < v <;> simp [h1,h2]
 exact absurd (Rat.le_of_lt h2) (Rat.not_le.2 h1)
theorem int1 (n:Int):Rat.divInt n 1=(n:Rat):=by
 have h:Rat.divInt n 1=mkRat n 1:=Rat.divInt_ofNat n 1
 rw [h]
 apply Rat.ext
 · simp [Rat.num_mkRat]
 · simp [Rat.den_mkRat]
end
section
open Go Go.RowKit
theorem RN.pos_ne {A:Option Addr} {n c V k:Nat} (h:RN w A n c V k) (hV:V ≠ 0):((n:Int) == 0)=false:=by
 have h1:=Qlx h
 rw [decide_eq_true (show 0 < V by omega)] at h1
 have:=of_decide_eq_true h1
 simp;omega
theorem RN.zero_n {A:Option Addr} {n c V k:Nat} (h:RN w A n c V k) (hV:V=0):n=0:=by
 have h1:=h.1.1
 rw [hV,Qau] at h1
 exact h1.symm
theorem fld02 (s:Bool) (A:Option Addr) (n c:Nat) (w:World):(Instr.field 40 (.agg #[.bool s,.slice A n c]) 1).run Tryz.prog w=.ok (.slice A n c) w:=by kernel_rfl
section
variable {w:World} {s:Bool} {A A':Option Addr} {n c n' c' k k1:Nat} {v:Rat}
theorem RQ.pz (h:RQ w s A n c A' n' c' v k):RZ w s A n c v.num k:=h.1.rz
theorem RQ.pg (h:RQ w s A n c A' n' c' v k):RG w s A n c v.num k:=h.1
theorem RQ.qn (h:RQ w s A n c A' n' c' v k):RN w A' n' c' v.den k:=h.2
theorem RQ.qz (h:RQ w s A n c A' n' c' v k):RZ w false A' n' c' (v.den:Int) k:=⟨v.den,h.2,rfl⟩
end
theorem Qdy (v:Rat):v=mkRat v.num v.den:=(Rat.mkRat_self v).symm
theorem QiX {w W:World} {x0 x1 x2 x3 x4 x5:Value} (h:((w.alloc (Obj.cells #[x0,x1,x2] 27)).alloc (Obj.cells #[x3,x4,x5] 42))=W):Below w.heap.size w W∧B3 W (w.heap.size) x0 x1 x2∧B3R W (w.heap.size+1) x3 x4 x5∧W.heap.size=w.heap.size+2:=by subst h;exact ⟨by exact (((Below.refl _ _).alloc (Nat.le_refl _) _).alloc (by simp) _),by exact (B3.new' _ _ _ _ _ rfl).alloc _,by exact B3R.new' _ _ _ _ _ (by simp),by simp⟩
theorem QnI {s:Bool} {A A':Option Addr} {n c n' c' k qq:Nat} {pp:Int} (p:ZR w s A n c pp k) (q:NR w A' n' c' qq k) (hk:k≤1000) (hk1:1≤k) (hq:qq=0) :
 Calls Tryz.prog 22 #[.agg #[.bool s,.slice A n c,.slice A' n' c']] w (Qcm w (mkRat pp (Qa7 qq)) (2*k)):=by
 have HQ:=Lib.hid hq
 have HD:Hid (mkRat pp 1=mkRat pp (Qa7 qq)):=by show _=_;rw [hq];rfl
 clear hq
 go_enter Tryz.func22,Tryz.ntmps22
 go_wp2_with fail
 generalize hW:World.alloc _ _=W
 obtain ⟨hb,XA,Z,hzW⟩:=QiX hW;clear hW;replace p:=p.below hb;replace q:=q.below hb;obtain ⟨xa0,xa1,xa2⟩:=XA.all
 go_upto_region 2 with (first
  | (go_at_call 54;(with_reducible refine (Qod (2*k) q (by omega) rfl).mono ?_);rintro e w_x ⟨A_x,n_x,c_x,rfl,x,hh⟩
     (try replace p:=p.below hh);(try replace q:=q.below hh);(try replace y:=y.below hh);(try replace o:=o.below hh);(try replace r:=r.below hh);(try replace XA:=XA.below hh);(try replace Z:=Z.below hh);replace hb:=Qaj hb hh;obtain ⟨xa0,xa1,xa2⟩:=XA.all))
 have hx0:=x.zero_n HQ.out
 subst hx0
 go_wp2_with (first
  | (go_at_call 55;(with_reducible refine (rof_rn _).mono ?_);rintro e w_o ⟨A_o,n_o,c_o,rfl,o,hh⟩
     (try replace p:=p.below hh);(try replace q:=q.below hh);(try replace x:=x.below hh);(try replace y:=y.below hh);(try replace r:=r.below hh);(try replace XA:=XA.below hh);(try replace Z:=Z.below hh);replace hb:=Qaj hb hh;obtain ⟨xa0,xa1,xa2⟩:=XA.all)
  | (go_at_call 57;(with_reducible refine (rin2 p hk).mono ?_);rintro e w_y ⟨s_y,A_y,n_y,c_y,rfl,y,hh⟩
     (try replace p:=p.below hh);(try replace q:=q.below hh);(try replace x:=x.below hh);(try replace o:=o.below hh);(try replace r:=r.below hh);(try replace XA:=XA.below hh);(try replace Z:=Z.below hh);replace hb:=Qaj hb hh;obtain ⟨xa0,xa1,xa2⟩:=XA.all)
  | (go_at_call 56;(with_reducible refine (QdD y (o.more (by omega)) (by omega) (by decide)).mono ?_);rintro e w_r ⟨s_r,A_r,n_r,c_r,B_r,m_r,d_r,rfl,r,hh⟩
     rw [HD.out] at r;(try replace p:=p.below hh);(try replace q:=q.below hh);(try replace x:=x.below hh);(try replace y:=y.below hh);(try replace o:=o.below hh);(try replace XA:=XA.below hh);(try replace Z:=Z.below hh);replace hb:=Qaj hb hh;obtain ⟨xa0,xa1,xa2⟩:=XA.all;have zf0:=Z.f0;have zf1:=Z.f1;have zf2:=Z.f2;obtain ⟨z0,z1,z2⟩:=Z.all))
 have Z2:=Z.set3 (.bool s_r) (.slice A_r n_r c_r) (.slice B_r m_r d_r)
 obtain ⟨g0,g1,g2⟩:=Z2.all
 refine bodyPost_ret (v:=.agg #[.bool s_r,.slice A_r n_r c_r,.slice B_r m_r d_r]) (by simp [results,Tryz.results22,go_sem,g0,g1,g2]) rfl ?_
 exact ⟨s_r,A_r,n_r,c_r,B_r,m_r,d_r,rfl,r.set3 Z _ _ _,Qao hb (by omega) _ _ _⟩
theorem Qqv {s:Bool} {A A':Option Addr} {n c n' c' k qq:Nat} {pp:Int} (p:ZR w s A n c pp k) (q:NR w A' n' c' qq k) (hk:k≤1000) (hk1:1≤k) (hq:qq ≠ 0) :
 Calls Tryz.prog 22 #[.agg #[.bool s,.slice A n c,.slice A' n' c']] w (Qcm w (mkRat pp (Qa7 qq)) (2*k)):=by
 have HQ:=Lib.hid hq
 have HD:Hid (mkRat pp qq=mkRat pp (Qa7 qq)):=by show _=_;rw [Qkj hq]
 clear hq
 go_enter Tryz.func22,Tryz.ntmps22
 go_wp2_with fail
 generalize hW:World.alloc _ _=W
 obtain ⟨hb,XA,Z,hzW⟩:=QiX hW;clear hW;replace p:=p.below hb;replace q:=q.below hb;obtain ⟨xa0,xa1,xa2⟩:=XA.all
 go_upto_region 2 with (first
  | (go_at_call 54;(with_reducible refine (Qod (2*k) q (by omega) rfl).mono ?_);rintro e w_x ⟨A_x,n_x,c_x,rfl,x,hh⟩
     (try replace p:=p.below hh);(try replace q:=q.below hh);(try replace y:=y.below hh);(try replace o:=o.below hh);(try replace r:=r.below hh);(try replace XA:=XA.below hh);(try replace Z:=Z.below hh);replace hb:=Qaj hb hh;obtain ⟨xa0,xa1,xa2⟩:=XA.all))
 have hx0:=x.pos_ne HQ.out
 go_wp2_with (first
  | (go_at_call 57;(with_reducible refine (rin2 p hk).mono ?_);rintro e w_y ⟨s_y,A_y,n_y,c_y,rfl,y,hh⟩
     (try replace p:=p.below hh);(try replace q:=q.below hh);(try replace x:=x.below hh);(try replace o:=o.below hh);(try replace r:=r.below hh);(try replace XA:=XA.below hh);(try replace Z:=Z.below hh);replace hb:=Qaj hb hh;obtain ⟨xa0,xa1,xa2⟩:=XA.all)
  | (go_at_call 56;(with_reducible refine (QdD y x (by omega) HQ.out).mono ?_);rintro e w_r ⟨s_r,A_r,n_r,c_r,B_r,m_r,d_r,rfl,r,hh⟩
     rw [HD.out] at r;(try replace p:=p.below hh);(try replace q:=q.below hh);(try replace x:=x.below hh);(try replace y:=y.below hh);(try replace o:=o.below hh);(try replace XA:=XA.below hh);(try replace Z:=Z.below hh);replace hb:=Qaj hb hh;obtain ⟨xa0,xa1,xa2⟩:=XA.all;have zf0:=Z.f0;have zf1:=Z.f1;have zf2:=Z.f2;obtain ⟨z0,z1,z2⟩:=Z.all))
 have Z2:=Z.set3 (.bool s_r) (.slice A_r n_r c_r) (.slice B_r m_r d_r)
 obtain ⟨g0,g1,g2⟩:=Z2.all
 refine bodyPost_ret (v:=.agg #[.bool s_r,.slice A_r n_r c_r,.slice B_r m_r d_r]) (by simp [results,Tryz.results22,go_sem,g0,g1,g2]) rfl ?_
 exact ⟨s_r,A_r,n_r,c_r,B_r,m_r,d_r,rfl,r.set3 Z _ _ _,Qao hb (by omega) _ _ _⟩
theorem rin3 {s:Bool} {A A':Option Addr} {n c n' c' k:Nat} {v:Rat} (X0:QR w s A n c A' n' c' v k) (hk:k≤1000) (hk1:1≤k) :
 Calls Tryz.prog 22 #[.agg #[.bool s,.slice A n c,.slice A' n' c']] w (Qcm w v (2*k)):=by
 obtain ⟨pp,qq,p,q,rfl⟩:=X0
 by_cases h:qq=0
 · exact QnI p q hk hk1 h
 · exact Qqv p q hk hk1 h
theorem Qnc {w W:World} {x0 x1 x2 x3 x4:Value} (h:((w.alloc (Obj.cells #[x0,x1,x2] 42)).alloc (Obj.cells #[x3,x4] 40))=W):Below w.heap.size w W∧B3R W (w.heap.size) x0 x1 x2∧By W (w.heap.size+1) x3 x4∧W.heap.size=w.heap.size+2:=by subst h;exact ⟨by exact (((Below.refl _ _).alloc (Nat.le_refl _) _).alloc (by simp) _),by exact (B3R.new' _ _ _ _ _ rfl).alloc _,by exact By.new' _ _ _ _ (by simp),by simp⟩
theorem Qjm {s:Bool} {A A':Option Addr} {n c n' c' k:Nat} {v:Rat} (X:RQ w s A n c A' n' c' v k) :
 Calls Tryz.prog 53 #[.agg #[.bool s,.slice A n c,.slice A' n' c']] w fun e w'=>e=.returned (.agg #[.bool false,.slice A' n' c'])∧Below w.heap.size w w':=by
 have hn:=X.qn.pos_ne v.den_nz;clear X
 go_enter Tryz.func53,Tryz.ntmps53
 go_upto_region 1 with (fail)
 generalize hW:World.alloc _ _=W
 obtain ⟨hb,XA,Z,hzW⟩:=Qnc hW;clear hW;obtain ⟨xa0,xa1,xa2⟩:=XA.all;obtain ⟨z0,z1⟩:=Z.all;have zf0:=Z.f0;have zf1:=Z.f1
 go_wp2_with fail
 have Z2:=Z.set2 (.bool false) (.slice A' n' c')
 obtain ⟨g0,g1⟩:=Z2.all
 refine bodyPost_ret (v:=.agg #[.bool false,.slice A' n' c']) (by simp [results,Tryz.results53,go_sem,g0,g1]) rfl ?_
 exact ⟨rfl,Qku hb (by omega) _ _⟩
theorem Qje {w W:World} {x0 x1 x2:Value} (h:(w.alloc (Obj.cells #[x0,x1,x2] 42))=W):Below w.heap.size w W∧B3R W (w.heap.size) x0 x1 x2∧W.heap.size=w.heap.size+1:=by subst h;exact ⟨by exact ((Below.refl _ _).alloc (Nat.le_refl _) _),by exact B3R.new' _ _ _ _ _ rfl,by simp⟩
theorem rsign3 {s:Bool} {A A':Option Addr} {n c n' c' k:Nat} {v:Rat} (X:RQ w s A n c A' n' c' v k) :
 Calls Tryz.prog 50 #[.agg #[.bool s,.slice A n c,.slice A' n' c']] w fun e w'=>e=.returned (.int .i64 (Qck v))∧Below w.heap.size w w':=by
 have HS:Hid (sgn v.num=Qck v):=by
  show _=_
  conv=>rhs;rw [Qdy v]
  exact (QoL v.den_nz).symm
 go_enter Tryz.func50,Tryz.ntmps50
 go_wp2_with fail
 generalize hW:World.alloc _ _=W
 obtain ⟨hb,XA,hzW⟩:=Qje hW;clear hW;replace X:=X.below hb;obtain ⟨xa0,xa1,xa2⟩:=XA.all
 go_wp2_with (first
  | (go_at_call 88;(with_reducible refine (QqU X.pz).mono ?_);rintro e w_z ⟨rfl,hh⟩
     rw [HS.out];(try replace X:=X.below hh);(try replace XA:=XA.below hh);replace hb:=Qaj hb hh;obtain ⟨xa0,xa1,xa2⟩:=XA.all))
 go_ret;exact ⟨rfl,hb⟩
theorem QiO {w W:World} {x0 x1 x2 x3 x4 x5:Value} (h:((w.alloc (Obj.cells #[x0,x1,x2] 42)).alloc (Obj.cells #[x3,x4,x5] 42))=W):Below w.heap.size w W∧B3R W (w.heap.size) x0 x1 x2∧B3R W (w.heap.size+1) x3 x4 x5∧W.heap.size=w.heap.size+2:=by subst h;exact ⟨by exact (((Below.refl _ _).alloc (Nat.le_refl _) _).alloc (by simp) _),by exact (B3R.new' _ _ _ _ _ rfl).alloc _,by exact B3R.new' _ _ _ _ _ (by simp),by simp⟩
theorem Qsc {s:Bool} {A A':Option Addr} {n c n' c' k:Nat} {v:Rat} (X:RQ w s A n c A' n' c' v k) :
 Calls Tryz.prog 118 #[.agg #[.bool s,.slice A n c,.slice A' n' c']] w (Qcm w (-v) k):=by
 go_enter Tryz.func118,Tryz.ntmps118
 go_wp2_with fail
 generalize hW:World.alloc _ _=W
 obtain ⟨hb,XA,Z,hzW⟩:=QiO hW;clear hW;replace X:=X.below hb
 replace X:=X.below (Below.refl _ _).drew
 replace XA:=XA.below (Below.refl _ _).drew
 replace Z:=Z.below (Below.refl _ _).drew
 replace hb:=hb.drew
 go_region_held3 (fun w'=>w'.cell? ⟨w.heap.size,0,none⟩=some (.bool s)∧w'.cell? ⟨w.heap.size,1,none⟩=some (.slice A n c)∧w'.cell? ⟨w.heap.size,2,none⟩=some (.slice A' n' c'))
  (first | with_reducible exact ⟨XA.c0,XA.c1,XA.c2⟩ | with_reducible exact ⟨(Qac _ _ _ _ _ _ _ (by omega)).trans XA.c0,(Qac _ _ _ _ _ _ _ (by omega)).trans XA.c1,(Qac _ _ _ _ _ _ _ (by omega)).trans XA.c2⟩)
  (first
  | (go_at_call 120;(with_reducible refine (Qoe X.pz).mono ?_);rintro e w_y ⟨s_y,A_y,n_y,c_y,rfl,y,hh⟩
     (try replace X:=X.below hh);(try replace XA:=XA.below hh);(try replace Z:=Z.below hh);replace hb:=Qaj hb hh;have zf0:=Z.f0;have zf1:=Z.f1;have zf2:=Z.f2;obtain ⟨z0,z1,z2⟩:=Z.all))
 go_wp2_with fail
 have Z2:=Z.set3 (.bool s_y) (.slice A_y n_y c_y) (.slice A' n' c')
 obtain ⟨g0,g1,g2⟩:=Z2.all
 refine bodyPost_ret (v:=.agg #[.bool s_y,.slice A_y n_y c_y,.slice A' n' c']) (by simp [results,Tryz.results118,go_sem,g0,g1,g2]) rfl ?_
 have hr:RQ w_y s_y A_y n_y c_y A' n' c' (-v) k:=⟨by rw [Rat.neg_num];exact y,by rw [Rat.neg_den];exact X.qn⟩
 exact ⟨s_y,_,_,_,_,_,_,rfl,hr.set3 Z _ _ _,Qao hb (by omega) _ _ _⟩
theorem QgO {w W:World} {x0 x1 x2 x3 x4 x5 x6 x7 x8:Value} (h:(((w.alloc (Obj.cells #[x0,x1,x2] 42)).alloc (Obj.cells #[x3,x4,x5] 42)).alloc (Obj.cells #[x6,x7,x8] 42))=W):Below w.heap.size w W∧B3R W (w.heap.size) x0 x1 x2∧B3R W (w.heap.size+1) x3 x4 x5∧B3R W (w.heap.size+1+1) x6 x7 x8∧W.heap.size=w.heap.size+3:=by subst h;exact ⟨by exact ((((Below.refl _ _).alloc (Nat.le_refl _) _).alloc (by simp) _).alloc (by simp;omega) _),by exact ((B3R.new' _ _ _ _ _ rfl).alloc _).alloc _,by exact (B3R.new' _ _ _ _ _ (by simp)).alloc _,by exact B3R.new' _ _ _ _ _ (by simp),by simp⟩
theorem rmul3 {s t:Bool} {A A' B B':Option Addr} {n c n' c' m d m' d' k k2:Nat} {v u:Rat} (X:RQ w s A n c A' n' c' v k) (Y:RQ w t B m d B' m' d' u k2) (hk:k≤10000) (hk2:k2≤10000) :
 Calls Tryz.prog 87 #[.agg #[.bool s,.slice A n c,.slice A' n' c'],.agg #[.bool t,.slice B m d,.slice B' m' d']] w (Qcm w (v*u) (k+k2)):=by
 have HE:Hid (mkRat (v.num*u.num) (v.den*u.den)=v*u):=by
  show _=_
  conv=>rhs;rw [Qdy v,Qdy u,Qq4]
 have H0:Hid (v.den*u.den ≠ 0):=Nat.mul_ne_zero v.den_nz u.den_nz
 have HJ:Hid (v.den*u.den < B32 ^ (k+k2)):=by
  show _ < _
  rw [Nat.pow_add]
  exact Nat.mul_lt_mul'' X.qn.lt Y.qn.lt
 have hfd:=fld02
 go_enter Tryz.func87,Tryz.ntmps87
 go_wp2_with fail
 generalize hW:World.alloc _ _=W
 obtain ⟨hb,XA,XB,Z,hzW⟩:=QgO hW;clear hW;replace X:=X.below hb;replace Y:=Y.below hb
 replace X:=X.below (Below.refl _ _).drew
 replace Y:=Y.below (Below.refl _ _).drew
 replace XA:=XA.below (Below.refl _ _).drew
 replace XB:=XB.below (Below.refl _ _).drew
 replace Z:=Z.below (Below.refl _ _).drew
 replace hb:=hb.drew
 go_region_held3 (fun w'=>w'.cell? ⟨w.heap.size,0,none⟩=some (.bool s)∧w'.cell? ⟨w.heap.size,1,none⟩=some (.slice A n c)∧w'.cell? ⟨w.heap.size,2,none⟩=some (.slice A' n' c')∧w'.cell? ⟨w.heap.size+1,0,none⟩=some (.bool t)∧w'.cell? ⟨w.heap.size+1,1,none⟩=some (.slice B m d)∧w'.cell? ⟨w.heap.size+1,2,none⟩=some (.slice B' m' d'))
  (first | with_reducible exact ⟨XA.c0,XA.c1,XA.c2,XB.c0,XB.c1,XB.c2⟩ | with_reducible exact ⟨(Qac _ _ _ _ _ _ _ (by omega)).trans XA.c0,(Qac _ _ _ _ _ _ _ (by omega)).trans XA.c1,(Qac _ _ _ _ _ _ _ (by omega)).trans XA.c2,(Qac _ _ _ _ _ _ _ (by omega)).trans XB.c0,(Qac _ _ _ _ _ _ _ (by omega)).trans XB.c1,(Qac _ _ _ _ _ _ _ (by omega)).trans XB.c2⟩)
  (first
  | (go_at_call 52;(with_reducible refine (QnY X.pz Y.pz (by omega) (by omega)).mono ?_);rintro e w_x ⟨s_x,A_x,n_x,c_x,rfl,x,hh⟩
     (try replace X:=X.below hh);(try replace Y:=Y.below hh);(try replace y:=y.below hh);(try replace r:=r.below hh);(try replace XA:=XA.below hh);(try replace XB:=XB.below hh);(try replace Z:=Z.below hh);replace hb:=Qaj hb hh)
  | (go_at_call 53;(with_reducible refine (Qjm X).mono ?_);rintro e w_z ⟨rfl,hh⟩
     (try replace X:=X.below hh);(try replace Y:=Y.below hh);(try replace x:=x.below hh);(try replace y:=y.below hh);(try replace r:=r.below hh);(try replace XA:=XA.below hh);(try replace XB:=XB.below hh);(try replace Z:=Z.below hh);replace hb:=Qaj hb hh)
  | (go_at_call 53;(with_reducible refine (Qjm Y).mono ?_);rintro e w_z ⟨rfl,hh⟩
     (try replace X:=X.below hh);(try replace Y:=Y.below hh);(try replace x:=x.below hh);(try replace y:=y.below hh);(try replace r:=r.below hh);(try replace XA:=XA.below hh);(try replace XB:=XB.below hh);(try replace Z:=Z.below hh);replace hb:=Qaj hb hh)
  | (go_at_call 91;(with_reducible refine (QkT (k+k2) X.qn Y.qn (by omega) (by omega) HJ.out).mono ?_);rintro e w_y ⟨A_y,n_y,c_y,rfl,y,hh⟩
     (try replace X:=X.below hh);(try replace Y:=Y.below hh);(try replace x:=x.below hh);(try replace r:=r.below hh);(try replace XA:=XA.below hh);(try replace XB:=XB.below hh);(try replace Z:=Z.below hh);replace hb:=Qaj hb hh)
  | (go_at_call 56;(with_reducible refine (QdD x y (by omega) H0.out).mono ?_);rintro e w_r ⟨s_r,A_r,n_r,c_r,B_r,m_r,d_r,rfl,r,hh⟩
     rw [HE.out] at r;(try replace X:=X.below hh);(try replace Y:=Y.below hh);(try replace x:=x.below hh);(try replace y:=y.below hh);(try replace XA:=XA.below hh);(try replace XB:=XB.below hh);(try replace Z:=Z.below hh);replace hb:=Qaj hb hh;have zf0:=Z.f0;have zf1:=Z.f1;have zf2:=Z.f2;obtain ⟨z0,z1,z2⟩:=Z.all))
 go_wp2_with fail
 have Z2:=Z.set3 (.bool s_r) (.slice A_r n_r c_r) (.slice B_r m_r d_r)
 obtain ⟨g0,g1,g2⟩:=Z2.all
 refine bodyPost_ret (v:=.agg #[.bool s_r,.slice A_r n_r c_r,.slice B_r m_r d_r]) (by simp [results,Tryz.results87,go_sem,g0,g1,g2]) rfl ?_
 exact ⟨s_r,A_r,n_r,c_r,B_r,m_r,d_r,rfl,r.set3 Z _ _ _,Qao hb (by omega) _ _ _⟩
theorem Qsw {s t:Bool} {A A' B B':Option Addr} {n c n' c' m d m' d' k k2:Nat} {v u:Rat} (X:RQ w s A n c A' n' c' v k) (Y:RQ w t B m d B' m' d' u k2) (hk:k≤10000) (hk2:k2≤10000) :
 Calls Tryz.prog 21 #[.agg #[.bool s,.slice A n c,.slice A' n' c'],.agg #[.bool t,.slice B m d,.slice B' m' d']] w fun e w'=>e=.returned (.int .i64 (Qdf v u))∧Below w.heap.size w w':=by
 have HE:Hid (QdU (v.num*(u.den:Int)) (u.num*(v.den:Int))=Qdf v u):=by
  show _=_
  conv=>rhs;rw [Qdy v,Qdy u]
  exact (QiG v.den_nz u.den_nz).symm
 go_enter Tryz.func21,Tryz.ntmps21
 go_wp2_with fail
 generalize hW:World.alloc _ _=W
 obtain ⟨hb,XA,XB,hzW⟩:=QiO hW;clear hW;replace X:=X.below hb;replace Y:=Y.below hb
 replace X:=X.below (Below.refl _ _).drew
 replace Y:=Y.below (Below.refl _ _).drew
 replace XA:=XA.below (Below.refl _ _).drew
 replace XB:=XB.below (Below.refl _ _).drew
 replace hb:=hb.drew
 go_region_held3 (fun w'=>w'.cell? ⟨w.heap.size,0,none⟩=some (.bool s)∧w'.cell? ⟨w.heap.size,1,none⟩=some (.slice A n c)∧w'.cell? ⟨w.heap.size,2,none⟩=some (.slice A' n' c')∧w'.cell? ⟨w.heap.size+1,0,none⟩=some (.bool t)∧w'.cell? ⟨w.heap.size+1,1,none⟩=some (.slice B m d)∧w'.cell? ⟨w.heap.size+1,2,none⟩=some (.slice B' m' d'))
  (first | with_reducible exact ⟨XA.c0,XA.c1,XA.c2,XB.c0,XB.c1,XB.c2⟩)
  (first
  | (go_at_call 53;(with_reducible refine (Qjm Y).mono ?_);rintro e w_z ⟨rfl,hh⟩
     (try replace X:=X.below hh);(try replace Y:=Y.below hh);(try replace x:=x.below hh);(try replace y:=y.below hh);(try replace XA:=XA.below hh);(try replace XB:=XB.below hh);replace hb:=Qaj hb hh)
  | (go_at_call 52;(with_reducible refine (QnY X.pz Y.qz (by omega) (by omega)).mono ?_);rintro e w_x ⟨s_x,A_x,n_x,c_x,rfl,x,hh⟩
     (try replace X:=X.below hh);(try replace Y:=Y.below hh);(try replace y:=y.below hh);(try replace XA:=XA.below hh);(try replace XB:=XB.below hh);replace hb:=Qaj hb hh)
  | (go_at_call 53;(with_reducible refine (Qjm X).mono ?_);rintro e w_z ⟨rfl,hh⟩
     (try replace X:=X.below hh);(try replace Y:=Y.below hh);(try replace x:=x.below hh);(try replace y:=y.below hh);(try replace XA:=XA.below hh);(try replace XB:=XB.below hh);replace hb:=Qaj hb hh)
  | (go_at_call 52;(with_reducible refine (QnY Y.pz X.qz (by omega) (by omega)).mono ?_);rintro e w_y ⟨s_y,A_y,n_y,c_y,rfl,y,hh⟩
     (try replace X:=X.below hh);(try replace Y:=Y.below hh);(try replace x:=x.below hh);(try replace XA:=XA.below hh);(try replace XB:=XB.below hh);replace hb:=Qaj hb hh)
  | (go_at_call 51;(with_reducible refine (rcmp2 x.rz y.rz (by omega) (by omega)).mono ?_);rintro e w_z ⟨rfl,hh⟩
     rw [HE.out];(try replace X:=X.below hh);(try replace Y:=Y.below hh);(try replace x:=x.below hh);(try replace y:=y.below hh);(try replace XA:=XA.below hh);(try replace XB:=XB.below hh);replace hb:=Qaj hb hh))
 go_wp2_with fail
 go_ret;exact ⟨rfl,hb⟩
end
section
open Go Go.RowKit
def VRG (v:Int) (k:Nat) (x:Value) (w:World):Prop:=∃ s A n c,x=.agg #[.bool s,.slice A n c]∧RG w s A n c v k
theorem RG.box {T:TypeId} {w w':World} {g:Nat} {cs:Array Value} {s:Bool} {A:Option Addr} {n c k:Nat} {v:Int} (h:RG w s A n c v k) (B:BoxAt T w g cs) (ho:Only g w w'):RG w' s A n c v k:=h.only (B.offx h.2.1) ho
theorem Qco (v:Int) (k:Nat):Stays (VRG v k) :=
 ⟨fun _ _ _ ⟨s,A,n,c,h1,h2⟩ hb=>⟨s,A,n,c,h1,h2.below hb⟩,fun _ _ _ _ _ _ ⟨s,A,n,c,h1,h2⟩ hB ho=>⟨s,A,n,c,h1,h2.box hB ho⟩⟩
theorem QjO {e:Operand→Value} {x:Operand} {d:Option Tmp} {y g:Nat} {pos:String} {af:Array Edge} {u v z:Value} (h:e x=.pointer (some ⟨g,0,none⟩)) (h0:w.cell? ⟨g,0,none⟩=some u) (h1:w.cell? ⟨g,1,none⟩=some v) (h2:w.cell? ⟨g,2,none⟩=some z) :
 (execOp e ⟨d,.load 42 x,y,pos,af,none⟩).run Tryz.prog w=.ok (.value (.agg #[u,v,z])) w:=by
 go_simp
theorem QhQ {e:Operand→Value} {x:Operand} {d:Option Tmp} {y g:Nat} {pos:String} {af:Array Edge} {u v:Value} (h:e x=.pointer (some ⟨g,0,none⟩)) (h0:w.cell? ⟨g,0,none⟩=some u) (h1:w.cell? ⟨g,1,none⟩=some v) :
 (execOp e ⟨d,.load 40 x,y,pos,af,none⟩).run Tryz.prog w=.ok (.value (.agg #[u,v])) w:=by
 go_simp
theorem Qnx {e:Operand→Value} {x:Operand} {d:Option Tmp} {y g:Nat} {pos:String} {af:Array Edge} (h:e x=.pointer (some ⟨g,0,none⟩)) :
 (execOp e ⟨d,.fieldAddr 42 x 0,y,pos,af,none⟩).run Tryz.prog w=.ok (.value (.pointer (some ⟨g,0,none⟩))) w:=by
 go_simp
theorem Qrz {ac:Act} {x z:Operand} {y g:Nat} {pos:String} {af:Array Edge} {Q:Exit→Act→World→Prop} {V:Int} {k:Nat} (p1:ac.eval x=.pointer (some ⟨g,0,none⟩)) (h:VRG V k (ac.eval z) w) (B:BoxAt 40 w g #[.bool false,.slice none 0 0]) :
 (⟨none,.store 40 x z,y,pos,af,none⟩:Oper).wp Tryz.prog ac w (fun a'' w''=>a''=ac∧Only g w w''∧∃ cs',BoxAt 40 w'' g cs'∧(fun cs w=>∃ s A n c,cs=#[.bool s,.slice A n c]∧RG w s A n c V k) cs' w'') Q:=by
 obtain ⟨s1,A1,n1,c1,h1,h2⟩:=h
 have Z:By w g (Value.bool false) (Value.slice none 0 0):=B.at_
 unfold Oper.wp
 rw [Qmv p1 h1 Z.c0 Z.c1 Z.f0 Z.f1,Oper.upon_skip]
 refine ⟨Qd7 ac undef,(((Only.refl g w).setCell 0 _).setCell 1 _),#[.bool s1,.slice A1 n1 c1],⟨Z.set2 (Value.bool s1) (Value.slice A1 n1 c1),free2 _ _ _ _⟩,s1,A1,n1,c1,rfl,h2.box B (((Only.refl g w).setCell 0 _).setCell 1 _)⟩
def VRQ (v:Rat) (k:Nat) (x:Value) (w:World):Prop:=∃ s A n c B m d,x=.agg #[.bool s,.slice A n c,.slice B m d]∧RQ w s A n c B m d v k
theorem RQ.box {T:TypeId} {w w':World} {g:Nat} {cs:Array Value} {s:Bool} {A A':Option Addr} {n c n' c' k:Nat} {v:Rat} (h:RQ w s A n c A' n' c' v k) (B:BoxAt T w g cs) (ho:Only g w w'):RQ w' s A n c A' n' c' v k:=⟨h.1.box B ho,h.2.only (B.offx h.2.1) ho⟩
theorem QbO (v:Rat) (k:Nat):Stays (VRQ v k) :=
 ⟨fun _ _ _ ⟨s,A,n,c,B,m,d,h1,h2⟩ hb=>⟨s,A,n,c,B,m,d,h1,h2.below hb⟩,fun _ _ _ _ _ _ ⟨s,A,n,c,B,m,d,h1,h2⟩ hB ho=>⟨s,A,n,c,B,m,d,h1,h2.box hB ho⟩⟩
end
section
open Go Go.RowKit
theorem Qb7 {e:Operand→Value} {x0:Operand} {d:Option Tmp} {y:Nat} {pos:String} {af:Array Edge} {u0:Value} (h0:e x0=u0) (hf:e (.func 53)=.func (.func 53) #[] #[]) :
 (execOp e ⟨d,.call ⟨.value (.func 53),#[x0],#[42]⟩,y,pos,af,none⟩).run Tryz.prog w=.ok (.enter 53 #[u0]) w:=by
 go_simp
theorem Qch {e:Operand→Value} {x0 x1:Operand} {d:Option Tmp} {y:Nat} {pos:String} {af:Array Edge} {u0 u1:Value} (h0:e x0=u0) (h1:e x1=u1) (hf:e (.func 52)=.func (.func 52) #[] #[]) :
 (execOp e ⟨d,.call ⟨.value (.func 52),#[x0,x1],#[40,40]⟩,y,pos,af,none⟩).run Tryz.prog w=.ok (.enter 52 #[u0,u1]) w:=by
 go_simp
theorem Qdl {e:Operand→Value} {x0 x1:Operand} {d:Option Tmp} {y:Nat} {pos:String} {af:Array Edge} {u0 u1:Value} (h0:e x0=u0) (h1:e x1=u1) (hf:e (.func 119)=.func (.func 119) #[] #[]) :
 (execOp e ⟨d,.call ⟨.value (.func 119),#[x0,x1],#[40,40]⟩,y,pos,af,none⟩).run Tryz.prog w=.ok (.enter 119 #[u0,u1]) w:=by
 go_simp
def Qrb (s:Bool) (t:Bool) (A:Option Addr) (A':Option Addr) (B:Option Addr) (B':Option Addr) (n:Nat) (c:Nat) (n':Nat) (c':Nat) (m:Nat) (d:Nat) (m':Nat) (d':Nat) (k:Nat) (k2:Nat) (g1:Nat) (g2:Nat) (v:Rat) (u:Rat) (sl:Nat):Value→World→Prop :=
 match sl with
 | 6=>fun x _=>x=Value.pointer (some ⟨g1,0,none⟩)
 | 7=>fun x _=>x=Value.agg #[.bool s,.slice A n c]
 | 8=>fun x _=>x=Value.agg #[.bool t,.slice B m d,.slice B' m' d']
 | 9=>fun x _=>x=Value.agg #[.bool false,.slice B' m' d']
 | 10=>VRG (v.num*(u.den:Int)) (k+k2)
 | 11=>fun x _=>x=Value.pointer (some ⟨g2,0,none⟩)
 | 12=>fun x _=>x=Value.agg #[.bool t,.slice B m d]
 | 13=>fun x _=>x=Value.agg #[.bool s,.slice A n c,.slice A' n' c']
 | 14=>fun x _=>x=Value.agg #[.bool false,.slice A' n' c']
 | 15=>VRG (u.num*(v.den:Int)) (k2+k)
 | 16=>VRG (v.num*(u.den:Int)+u.num*(v.den:Int)) (k+k2+1)
 | _=>fun _ _=>True
theorem QkE {id:Nat} {ac:Act} {Q:Exit→Act→World→Prop} {s t:Bool} {A A' B B':Option Addr} {n c n' c' m d m' d' k k2 g1 g2:Nat} {v u:Rat}
 (hsz:16 < ac.tmps.size) (e2:ac.eval (.tmp 2)=Value.pointer (some ⟨g1,0,none⟩)) (e3:ac.eval (.tmp 3)=Value.pointer (some ⟨g2,0,none⟩)) (XA:B3R w g1 (.bool s) (.slice A n c) (.slice A' n' c')) (XB:B3R w g2 (.bool t) (.slice B m d) (.slice B' m' d')) (X:RQ w s A n c A' n' c' v k) (Y:RQ w t B m d B' m' d' u k2) (hk:k≤10000) (hk2:k2≤10000)
 (hend:∀ (V:Nat→Value) (w':World) (g:Nat) (s:Bool) (A:Option Addr) (n c:Nat),RG w' s A n c (v.num*(u.den:Int)+u.num*(v.den:Int)) (k+k2+1)→By w' g (.bool s) (.slice A n c)→Below w.heap.size w w'→w.heap.size≤g→V 5=.pointer (some ⟨g,0,none⟩)→Q .normal (Qam ac [6,7,8,9,10,11,12,13,14,15,16,5] V) w') :
 (Code.region id #[⟨some 6,.fieldAddr 42 (.tmp 2) 0,0, "ref.go:81",#[],none⟩,
  ⟨some 7,.load 40 (.tmp 6),40, "ref.go:81",#[⟨0,.data⟩],none⟩,
  ⟨some 8,.load 42 (.tmp 3),42, "ref.go:81",#[],none⟩,
  ⟨some 9,.call ⟨.value (.func 53),#[.tmp 8],#[42]⟩,40, "ref.go:81",#[⟨2,.data⟩],none⟩,
  ⟨some 10,.call ⟨.value (.func 52),#[.tmp 7,.tmp 9],#[40,40]⟩,40, "ref.go:81",#[⟨1,.data⟩,⟨3,.data⟩,⟨3,.chain⟩],none⟩,
  ⟨some 11,.fieldAddr 42 (.tmp 3) 0,0, "ref.go:81",#[],none⟩,
  ⟨some 12,.load 40 (.tmp 11),40, "ref.go:81",#[⟨5,.data⟩],none⟩,
  ⟨some 13,.load 42 (.tmp 2),42, "ref.go:81",#[],none⟩,
  ⟨some 14,.call ⟨.value (.func 53),#[.tmp 13],#[42]⟩,40, "ref.go:81",#[⟨7,.data⟩,⟨4,.chain⟩],none⟩,
  ⟨some 15,.call ⟨.value (.func 52),#[.tmp 12,.tmp 14],#[40,40]⟩,40, "ref.go:81",#[⟨6,.data⟩,⟨8,.data⟩,⟨8,.chain⟩],none⟩,
  ⟨some 16,.call ⟨.value (.func 119),#[.tmp 10,.tmp 15],#[40,40]⟩,40, "ref.go:81",#[⟨4,.data⟩,⟨9,.data⟩,⟨9,.chain⟩],none⟩,
  ⟨some 5,.alloc 40,0, "ref.go:81",#[],none⟩,
  ⟨none,.store 40 (.tmp 5) (.tmp 16),0, "ref.go:81",#[⟨11,.data⟩,⟨10,.data⟩,⟨10,.chain⟩,⟨0,.phase⟩,⟨1,.phase⟩,⟨2,.phase⟩,⟨3,.phase⟩,⟨4,.phase⟩,⟨5,.phase⟩,⟨6,.phase⟩,⟨7,.phase⟩,⟨8,.phase⟩,⟨9,.phase⟩,⟨10,.phase⟩,⟨11,.phase⟩],none⟩] true).wp Tryz.prog Q ac w:=by
 have hnd:([6,7,8,9,10,11,12,13,14,15,16,5]:List Nat).Nodup:=by decide
 have G:∀ (sv:Nat→Value) (t:Nat),t ∈ ([6,7,8,9,10,11,12,13,14,15,16,5]:List Nat)→t≤16→(Qam ac [6,7,8,9,10,11,12,13,14,15,16,5] sv).eval (.tmp t)=sv t:=fun sv t ht h=>Qaz (t:=t) [6,7,8,9,10,11,12,13,14,15,16,5] ac hnd ht (Nat.lt_of_le_of_lt h hsz)
 have E2:∀ sv:Nat→Value,(Qam ac [6,7,8,9,10,11,12,13,14,15,16,5] sv).eval (.tmp 2)=Value.pointer (some ⟨g1,0,none⟩):=fun sv=>(Qap (v:=sv) [6,7,8,9,10,11,12,13,14,15,16,5] ac (show 2 ∉ _ by decide)).trans e2
 have E3:∀ sv:Nat→Value,(Qam ac [6,7,8,9,10,11,12,13,14,15,16,5] sv).eval (.tmp 3)=Value.pointer (some ⟨g2,0,none⟩):=fun sv=>(Qap (v:=sv) [6,7,8,9,10,11,12,13,14,15,16,5] ac (show 3 ∉ _ by decide)).trans e3
 refine Qhl 40 #[.bool false,.slice none 0 0] [6,7,8,9,10,11,12,13,14,15,16,5] 11 12 5 (⟨some 5,.alloc 40,0, "ref.go:81",#[],none⟩) (⟨none,.store 40 (.tmp 5) (.tmp 16),0, "ref.go:81",#[⟨11,.data⟩,⟨10,.data⟩,⟨10,.chain⟩,⟨0,.phase⟩,⟨1,.phase⟩,⟨2,.phase⟩,⟨3,.phase⟩,⟨4,.phase⟩,⟨5,.phase⟩,⟨6,.phase⟩,⟨7,.phase⟩,⟨8,.phase⟩,⟨9,.phase⟩,⟨10,.phase⟩,⟨11,.phase⟩],none⟩) (Qrb s t A A' B B' n c n' c' m d m' d' k k2 g1 g2 v u) (fun cs w=>∃ s A n c,cs=#[.bool s,.slice A n c]∧RG w s A n c (v.num*(u.den:Int)+u.num*(v.den:Int)) (k+k2+1)) (by kernel_rfl) (by kernel_rfl) rfl hnd rfl rfl rfl rfl ?_ rfl rfl ⟨⟨11,.data⟩,by simp,rfl,rfl⟩ ?_ (free2 _ _ _ _) (fun e w'=>QmC) ?_ ?_ ?_ ?_
 · intro i o h1 h2
   match i,h1 with
   | 0,h1=>cases h1;cases h2
   | 1,h1=>cases h1;cases h2
   | 2,h1=>cases h1;cases h2
   | 3,h1=>cases h1;cases h2
   | 4,h1=>cases h1;cases h2
   | 5,h1=>cases h1;cases h2
   | 6,h1=>cases h1;cases h2
   | 7,h1=>cases h1;cases h2
   | 8,h1=>cases h1;cases h2
   | 9,h1=>cases h1;cases h2
   | 10,h1=>cases h1;cases h2
   | 11,h1=>cases h1;cases h2
   | 12,h1=>cases h1;rfl
   | i+13,h1=>cases h1
 · intro t
   unfold Qrb
   split <;> first | exact QbF _ | exact QbS _ _ | exact Qct _ _ | exact Qco _ _ | exact QpY _ _ | exact Qpu _ _ | exact Qa4
 · intro i o t sv w' ho hia hd J0 hf
   have X:=X.below J0;have Y:=Y.below J0;have XA:=XA.below J0;have XB:=XB.below J0
   match i,ho with
   | 0,ho =>
     obtain rfl:⟨some 6,.fieldAddr 42 (.tmp 2) 0,0, "ref.go:81",#[],none⟩=o:=Option.some.inj ho
     cases hd
     refine Qaa (o:=⟨some 6,.fieldAddr 42 (.tmp 2) 0,0, "ref.go:81",#[],none⟩) rfl rfl ?_
     unfold Oper.wp
     rw [Qnx (E2 sv),Oper.upon_value]
     exact ⟨_,rfl,Below.refl _ _,rfl⟩
   | 1,ho =>
     obtain rfl:⟨some 7,.load 40 (.tmp 6),40, "ref.go:81",#[⟨0,.data⟩],none⟩=o:=Option.some.inj ho
     cases hd
     have f6:sv 6=Value.pointer (some ⟨g1,0,none⟩):=hf ⟨0,.data⟩ (by simp) rfl _ 6 rfl rfl (by decide)
     refine Qaa (o:=⟨some 7,.load 40 (.tmp 6),40, "ref.go:81",#[⟨0,.data⟩],none⟩) rfl rfl ?_
     unfold Oper.wp
     rw [QhQ ((G sv 6 (by decide) (by decide)).trans f6) XA.c0 XA.c1,Oper.upon_value]
     exact ⟨_,rfl,Below.refl _ _,rfl⟩
   | 2,ho =>
     obtain rfl:⟨some 8,.load 42 (.tmp 3),42, "ref.go:81",#[],none⟩=o:=Option.some.inj ho
     cases hd
     refine Qaa (o:=⟨some 8,.load 42 (.tmp 3),42, "ref.go:81",#[],none⟩) rfl rfl ?_
     unfold Oper.wp
     rw [QjO (E3 sv) XB.c0 XB.c1 XB.c2,Oper.upon_value]
     exact ⟨_,rfl,Below.refl _ _,rfl⟩
   | 3,ho =>
     obtain rfl:⟨some 9,.call ⟨.value (.func 53),#[.tmp 8],#[42]⟩,40, "ref.go:81",#[⟨2,.data⟩],none⟩=o:=Option.some.inj ho
     cases hd
     have f8:sv 8=Value.agg #[.bool t,.slice B m d,.slice B' m' d']:=hf ⟨2,.data⟩ (by simp) rfl _ 8 rfl rfl (by decide)
     refine Qaa (o:=⟨some 9,.call ⟨.value (.func 53),#[.tmp 8],#[42]⟩,40, "ref.go:81",#[⟨2,.data⟩],none⟩) rfl rfl ?_
     unfold Oper.wp
     rw [Qb7 ((G sv 8 (by decide) (by decide)).trans f8) rfl,Oper.upon_enter]
     refine (Qjm Y).mono ?_
     rintro e w1 ⟨rfl,hh⟩
     exact ⟨_,rfl,hh,rfl⟩
   | 4,ho =>
     obtain rfl:⟨some 10,.call ⟨.value (.func 52),#[.tmp 7,.tmp 9],#[40,40]⟩,40, "ref.go:81",#[⟨1,.data⟩,⟨3,.data⟩,⟨3,.chain⟩],none⟩=o:=Option.some.inj ho
     cases hd
     have f7:sv 7=Value.agg #[.bool s,.slice A n c]:=hf ⟨1,.data⟩ (by simp) rfl _ 7 rfl rfl (by decide)
     have f9:sv 9=Value.agg #[.bool false,.slice B' m' d']:=hf ⟨3,.data⟩ (by simp) rfl _ 9 rfl rfl (by decide)
     refine Qaa (o:=⟨some 10,.call ⟨.value (.func 52),#[.tmp 7,.tmp 9],#[40,40]⟩,40, "ref.go:81",#[⟨1,.data⟩,⟨3,.data⟩,⟨3,.chain⟩],none⟩) rfl rfl ?_
     unfold Oper.wp
     rw [Qch ((G sv 7 (by decide) (by decide)).trans f7) ((G sv 9 (by decide) (by decide)).trans f9) rfl,Oper.upon_enter]
     refine (QnY X.pz Y.qz (by omega) (by omega)).mono ?_
     rintro e w1 ⟨s1,A1,n1,c1,rfl,hq,hh⟩
     exact ⟨_,rfl,hh,s1,A1,n1,c1,rfl,hq⟩
   | 5,ho =>
     obtain rfl:⟨some 11,.fieldAddr 42 (.tmp 3) 0,0, "ref.go:81",#[],none⟩=o:=Option.some.inj ho
     cases hd
     refine Qaa (o:=⟨some 11,.fieldAddr 42 (.tmp 3) 0,0, "ref.go:81",#[],none⟩) rfl rfl ?_
     unfold Oper.wp
     rw [Qnx (E3 sv),Oper.upon_value]
     exact ⟨_,rfl,Below.refl _ _,rfl⟩
   | 6,ho =>
     obtain rfl:⟨some 12,.load 40 (.tmp 11),40, "ref.go:81",#[⟨5,.data⟩],none⟩=o:=Option.some.inj ho
     cases hd
     have f11:sv 11=Value.pointer (some ⟨g2,0,none⟩):=hf ⟨5,.data⟩ (by simp) rfl _ 11 rfl rfl (by decide)
     refine Qaa (o:=⟨some 12,.load 40 (.tmp 11),40, "ref.go:81",#[⟨5,.data⟩],none⟩) rfl rfl ?_
     unfold Oper.wp
     rw [QhQ ((G sv 11 (by decide) (by decide)).trans f11) XB.c0 XB.c1,Oper.upon_value]
     exact ⟨_,rfl,Below.refl _ _,rfl⟩
   | 7,ho =>
     obtain rfl:⟨some 13,.load 42 (.tmp 2),42, "ref.go:81",#[],none⟩=o:=Option.some.inj ho
     cases hd
     refine Qaa (o:=⟨some 13,.load 42 (.tmp 2),42, "ref.go:81",#[],none⟩) rfl rfl ?_
     unfold Oper.wp
     rw [QjO (E2 sv) XA.c0 XA.c1 XA.c2,Oper.upon_value]
     exact ⟨_,rfl,Below.refl _ _,rfl⟩
   | 8,ho =>
     obtain rfl:⟨some 14,.call ⟨.value (.func 53),#[.tmp 13],#[42]⟩,40, "ref.go:81",#[⟨7,.data⟩,⟨4,.chain⟩],none⟩=o:=Option.some.inj ho
     cases hd
     have f13:sv 13=Value.agg #[.bool s,.slice A n c,.slice A' n' c']:=hf ⟨7,.data⟩ (by simp) rfl _ 13 rfl rfl (by decide)
     refine Qaa (o:=⟨some 14,.call ⟨.value (.func 53),#[.tmp 13],#[42]⟩,40, "ref.go:81",#[⟨7,.data⟩,⟨4,.chain⟩],none⟩) rfl rfl ?_
     unfold Oper.wp
     rw [Qb7 ((G sv 13 (by decide) (by decide)).trans f13) rfl,Oper.upon_enter]
     refine (Qjm X).mono ?_
     rintro e w1 ⟨rfl,hh⟩
     exact ⟨_,rfl,hh,rfl⟩
   | 9,ho =>
     obtain rfl:⟨some 15,.call ⟨.value (.func 52),#[.tmp 12,.tmp 14],#[40,40]⟩,40, "ref.go:81",#[⟨6,.data⟩,⟨8,.data⟩,⟨8,.chain⟩],none⟩=o:=Option.some.inj ho
     cases hd
     have f12:sv 12=Value.agg #[.bool t,.slice B m d]:=hf ⟨6,.data⟩ (by simp) rfl _ 12 rfl rfl (by decide)
     have f14:sv 14=Value.agg #[.bool false,.slice A' n' c']:=hf ⟨8,.data⟩ (by simp) rfl _ 14 rfl rfl (by decide)
     refine Qaa (o:=⟨some 15,.call ⟨.value (.func 52),#[.tmp 12,.tmp 14],#[40,40]⟩,40, "ref.go:81",#[⟨6,.data⟩,⟨8,.data⟩,⟨8,.chain⟩],none⟩) rfl rfl ?_
     unfold Oper.wp
     rw [Qch ((G sv 12 (by decide) (by decide)).trans f12) ((G sv 14 (by decide) (by decide)).trans f14) rfl,Oper.upon_enter]
     refine (QnY Y.pz X.qz (by omega) (by omega)).mono ?_
     rintro e w1 ⟨s1,A1,n1,c1,rfl,hq,hh⟩
     exact ⟨_,rfl,hh,s1,A1,n1,c1,rfl,hq⟩
   | 10,ho =>
     obtain rfl:⟨some 16,.call ⟨.value (.func 119),#[.tmp 10,.tmp 15],#[40,40]⟩,40, "ref.go:81",#[⟨4,.data⟩,⟨9,.data⟩,⟨9,.chain⟩],none⟩=o:=Option.some.inj ho
     cases hd
     have h10:VRG (v.num*(u.den:Int)) (k+k2) (sv 10) w':=hf ⟨4,.data⟩ (by simp) rfl _ 10 rfl rfl (by decide)
     obtain ⟨s10,A10,n10,c10,f10,q10⟩:=h10
     have h15:VRG (u.num*(v.den:Int)) (k2+k) (sv 15) w':=hf ⟨9,.data⟩ (by simp) rfl _ 15 rfl rfl (by decide)
     obtain ⟨s15,A15,n15,c15,f15,q15⟩:=h15
     refine Qaa (o:=⟨some 16,.call ⟨.value (.func 119),#[.tmp 10,.tmp 15],#[40,40]⟩,40, "ref.go:81",#[⟨4,.data⟩,⟨9,.data⟩,⟨9,.chain⟩],none⟩) rfl rfl ?_
     unfold Oper.wp
     rw [Qdl ((G sv 10 (by decide) (by decide)).trans f10) ((G sv 15 (by decide) (by decide)).trans f15) rfl,Oper.upon_enter]
     refine (radd2 (k+k2+1) q10.rz q15.rz (by omega) (by omega) (by omega)).mono ?_
     rintro e w1 ⟨s1,A1,n1,c1,rfl,hq,hh⟩
     exact ⟨_,rfl,hh,s1,A1,n1,c1,rfl,hq⟩
   | 11,ho=>exact absurd rfl hia
   | 12,ho=>cases ho;cases hd
   | i+13,ho=>cases ho
 · intro sv w' g J0 p1 p3 hf
   have h1:VRG (v.num*(u.den:Int)+u.num*(v.den:Int)) (k+k2+1) (sv 16) w':=hf ⟨10,.data⟩ (by simp) rfl _ 16 rfl rfl (by decide)
   rw [← G sv 16 (by decide) (by decide)] at h1
   refine Qrz (V:=v.num*(u.den:Int)+u.num*(v.den:Int)) (k:=k+k2+1) (ac:=Qam ac [6,7,8,9,10,11,12,13,14,15,16,5] sv) (z:=.tmp 16) ?_ ?_ ?_
   · exact (G sv 5 (by decide) (by decide)).trans p1
   · exact h1
   · exact p3
 · rintro cs w1 w2 ⟨s1,A1,n1,c1,h1,h2⟩ hb
   exact ⟨s1,A1,n1,c1,h1,h2.below hb⟩
 · rintro sv w' g cs J0 hF p1 p2 p3 ⟨s1,A1,n1,c1,h1,h2⟩
   subst h1
   exact hend sv w' g _ _ _ _ h2 p3.at_ J0 p2 p1 
theorem radd3 {s t:Bool} {A A' B B':Option Addr} {n c n' c' m d m' d' k k2:Nat} {v u:Rat} (X:RQ w s A n c A' n' c' v k) (Y:RQ w t B m d B' m' d' u k2) (hk:k≤10000) (hk2:k2≤10000) :
 Calls Tryz.prog 117 #[.agg #[.bool s,.slice A n c,.slice A' n' c'],.agg #[.bool t,.slice B m d,.slice B' m' d']] w (Qcm w (v+u) (k+k2+1)):=by
 have HE:Hid (mkRat (v.num*(u.den:Int)+u.num*(v.den:Int)) (v.den*u.den)=v+u):=by
  show _=_
  conv=>rhs;rw [Qdy v,Qdy u,Qrn v.den_nz u.den_nz]
 have H0:Hid (v.den*u.den ≠ 0):=Nat.mul_ne_zero v.den_nz u.den_nz
 have HJ:Hid (v.den*u.den < B32 ^ (k+k2+1)):=by
  show _ < _
  have h1:=Nat.mul_lt_mul'' X.qn.lt Y.qn.lt
  rw [← Nat.pow_add] at h1
  exact Nat.lt_of_lt_of_le h1 (Nat.pow_le_pow_right (by decide) (by omega))
 have hfd:=fld02
 go_enter Tryz.func117,Tryz.ntmps117
 go_wp2_with fail
 generalize hW:World.alloc _ _=W
 obtain ⟨hb,XA,XB,Z,hzW⟩:=QgO hW;clear hW;replace X:=X.below hb;replace Y:=Y.below hb
 refine QkE (by simp) rfl rfl XA XB X Y hk hk2 ?_
 intro V w_x g_x s_x A_x n_x c_x x XP hh hg_x hv5
 simp only [Qam,Act.put,List.setIfInBounds_toArray,List.set_cons_zero,List.set_cons_succ,hv5]
 clear hv5;replace X:=X.below hh;replace Y:=Y.below hh;replace XA:=XA.below hh;replace XB:=XB.below hh;replace Z:=Z.below hh;replace hb:=Qaj hb hh
 go_upto_region 2 with (fail)
 replace X:=X.below (Below.refl _ _).drew
 replace Y:=Y.below (Below.refl _ _).drew
 replace x:=x.below (Below.refl _ _).drew
 replace XA:=XA.below (Below.refl _ _).drew
 replace XB:=XB.below (Below.refl _ _).drew
 replace XP:=XP.below (Below.refl _ _).drew
 replace Z:=Z.below (Below.refl _ _).drew
 replace hb:=hb.drew
 go_region_held3 (fun w'=>w'.cell? ⟨w.heap.size,0,none⟩=some (.bool s)∧w'.cell? ⟨w.heap.size,1,none⟩=some (.slice A n c)∧w'.cell? ⟨w.heap.size,2,none⟩=some (.slice A' n' c')∧w'.cell? ⟨w.heap.size+1,0,none⟩=some (.bool t)∧w'.cell? ⟨w.heap.size+1,1,none⟩=some (.slice B m d)∧w'.cell? ⟨w.heap.size+1,2,none⟩=some (.slice B' m' d')∧w'.cell? ⟨g_x,0,none⟩=some (.bool s_x)∧w'.cell? ⟨g_x,1,none⟩=some (.slice A_x n_x c_x))
  (first | with_reducible exact ⟨XA.c0,XA.c1,XA.c2,XB.c0,XB.c1,XB.c2,XP.c0,XP.c1⟩ | with_reducible exact ⟨(Qac _ _ _ _ _ _ _ (by omega)).trans XA.c0,(Qac _ _ _ _ _ _ _ (by omega)).trans XA.c1,(Qac _ _ _ _ _ _ _ (by omega)).trans XA.c2,(Qac _ _ _ _ _ _ _ (by omega)).trans XB.c0,(Qac _ _ _ _ _ _ _ (by omega)).trans XB.c1,(Qac _ _ _ _ _ _ _ (by omega)).trans XB.c2,(Qac _ _ _ _ _ _ _ (by omega)).trans XP.c0,(Qac _ _ _ _ _ _ _ (by omega)).trans XP.c1⟩)
  (first
  | (go_at_call 53;(with_reducible refine (Qjm X).mono ?_);rintro e w_z ⟨rfl,hh⟩
     (try replace X:=X.below hh);(try replace Y:=Y.below hh);(try replace x:=x.below hh);(try replace y:=y.below hh);(try replace r:=r.below hh);(try replace XA:=XA.below hh);(try replace XB:=XB.below hh);(try replace XP:=XP.below hh);(try replace Z:=Z.below hh);replace hb:=Qaj hb hh)
  | (go_at_call 53;(with_reducible refine (Qjm Y).mono ?_);rintro e w_z ⟨rfl,hh⟩
     (try replace X:=X.below hh);(try replace Y:=Y.below hh);(try replace x:=x.below hh);(try replace y:=y.below hh);(try replace r:=r.below hh);(try replace XA:=XA.below hh);(try replace XB:=XB.below hh);(try replace XP:=XP.below hh);(try replace Z:=Z.below hh);replace hb:=Qaj hb hh)
  | (go_at_call 91;(with_reducible refine (QkT (k+k2+1) X.qn Y.qn (by omega) (by omega) HJ.out).mono ?_);rintro e w_y ⟨A_y,n_y,c_y,rfl,y,hh⟩
     (try replace X:=X.below hh);(try replace Y:=Y.below hh);(try replace x:=x.below hh);(try replace r:=r.below hh);(try replace XA:=XA.below hh);(try replace XB:=XB.below hh);(try replace XP:=XP.below hh);(try replace Z:=Z.below hh);replace hb:=Qaj hb hh)
  | (go_at_call 56;(with_reducible refine (QdD x y (by omega) H0.out).mono ?_);rintro e w_r ⟨s_r,A_r,n_r,c_r,B_r,m_r,d_r,rfl,r,hh⟩
     rw [HE.out] at r;(try replace X:=X.below hh);(try replace Y:=Y.below hh);(try replace x:=x.below hh);(try replace y:=y.below hh);(try replace XA:=XA.below hh);(try replace XB:=XB.below hh);(try replace XP:=XP.below hh);(try replace Z:=Z.below hh);replace hb:=Qaj hb hh;have zf0:=Z.f0;have zf1:=Z.f1;have zf2:=Z.f2;obtain ⟨z0,z1,z2⟩:=Z.all))
 go_wp2_with fail
 have Z2:=Z.set3 (.bool s_r) (.slice A_r n_r c_r) (.slice B_r m_r d_r)
 obtain ⟨g0,g1,g2⟩:=Z2.all
 refine bodyPost_ret (v:=.agg #[.bool s_r,.slice A_r n_r c_r,.slice B_r m_r d_r]) (by simp [results,Tryz.results117,go_sem,g0,g1,g2]) rfl ?_
 exact ⟨s_r,A_r,n_r,c_r,B_r,m_r,d_r,rfl,r.set3 Z _ _ _,Qao hb (by omega) _ _ _⟩
theorem QrX {s t:Bool} {A A' B B':Option Addr} {n c n' c' m d m' d' k k2:Nat} {v u:Rat} (X:RQ w s A n c A' n' c' v k) (Y:RQ w t B m d B' m' d' u k2) (hk:k≤10000) (hk2:k2≤10000) :
 Calls Tryz.prog 86 #[.agg #[.bool s,.slice A n c,.slice A' n' c'],.agg #[.bool t,.slice B m d,.slice B' m' d']] w (Qcm w (v - u) (k+k2+1)):=by
 have HE:Hid (v+-u=v - u):=(Rat.sub_eq_add_neg v u).symm
 go_enter Tryz.func86,Tryz.ntmps86
 go_wp2_with fail
 generalize hW:World.alloc _ _=W
 obtain ⟨hb,XA,XB,Z,hzW⟩:=QgO hW;clear hW;replace X:=X.below hb;replace Y:=Y.below hb
 replace X:=X.below (Below.refl _ _).drew
 replace Y:=Y.below (Below.refl _ _).drew
 replace XA:=XA.below (Below.refl _ _).drew
 replace XB:=XB.below (Below.refl _ _).drew
 replace Z:=Z.below (Below.refl _ _).drew
 replace hb:=hb.drew
 go_region_held3 (fun w'=>w'.cell? ⟨w.heap.size,0,none⟩=some (.bool s)∧w'.cell? ⟨w.heap.size,1,none⟩=some (.slice A n c)∧w'.cell? ⟨w.heap.size,2,none⟩=some (.slice A' n' c')∧w'.cell? ⟨w.heap.size+1,0,none⟩=some (.bool t)∧w'.cell? ⟨w.heap.size+1,1,none⟩=some (.slice B m d)∧w'.cell? ⟨w.heap.size+1,2,none⟩=some (.slice B' m' d'))
  (first | with_reducible exact ⟨XA.c0,XA.c1,XA.c2,XB.c0,XB.c1,XB.c2⟩ | with_reducible exact ⟨(Qac _ _ _ _ _ _ _ (by omega)).trans XA.c0,(Qac _ _ _ _ _ _ _ (by omega)).trans XA.c1,(Qac _ _ _ _ _ _ _ (by omega)).trans XA.c2,(Qac _ _ _ _ _ _ _ (by omega)).trans XB.c0,(Qac _ _ _ _ _ _ _ (by omega)).trans XB.c1,(Qac _ _ _ _ _ _ _ (by omega)).trans XB.c2⟩)
  (first
  | (go_at_call 118;(with_reducible refine (Qsc Y).mono ?_);rintro e w_y ⟨s_y,A_y,n_y,c_y,B_y,m_y,d_y,rfl,y,hh⟩
     (try replace X:=X.below hh);(try replace Y:=Y.below hh);(try replace r:=r.below hh);(try replace XA:=XA.below hh);(try replace XB:=XB.below hh);(try replace Z:=Z.below hh);replace hb:=Qaj hb hh)
  | (go_at_call 117;(with_reducible refine (radd3 X y hk hk2).mono ?_);rintro e w_r ⟨s_r,A_r,n_r,c_r,B_r,m_r,d_r,rfl,r,hh⟩
     rw [HE.out] at r;(try replace X:=X.below hh);(try replace Y:=Y.below hh);(try replace y:=y.below hh);(try replace XA:=XA.below hh);(try replace XB:=XB.below hh);(try replace Z:=Z.below hh);replace hb:=Qaj hb hh;have zf0:=Z.f0;have zf1:=Z.f1;have zf2:=Z.f2;obtain ⟨z0,z1,z2⟩:=Z.all))
 go_wp2_with fail
 have Z2:=Z.set3 (.bool s_r) (.slice A_r n_r c_r) (.slice B_r m_r d_r)
 obtain ⟨g0,g1,g2⟩:=Z2.all
 refine bodyPost_ret (v:=.agg #[.bool s_r,.slice A_r n_r c_r,.slice B_r m_r d_r]) (by simp [results,Tryz.results86,go_sem,g0,g1,g2]) rfl ?_
 exact ⟨s_r,A_r,n_r,c_r,B_r,m_r,d_r,rfl,r.set3 Z _ _ _,Qao hb (by omega) _ _ _⟩
end
section
open Go Go.RowKit
theorem QmT {w W:World} {x0 x1 x2 x3:Value} (h:((w.alloc (Obj.cells #[x0,x1] 40)).alloc (Obj.cells #[x2,x3] 25))=W):Below w.heap.size w W∧By W (w.heap.size) x0 x1∧Bx W (w.heap.size+1) x2 x3∧W.heap.size=w.heap.size+2:=by subst h;exact ⟨by exact (((Below.refl _ _).alloc (Nat.le_refl _) _).alloc (by simp) _),by exact (By.new w _ _).alloc _,by exact Bx.new' _ _ _ _ (by simp),by simp⟩
theorem out2c {t:Bool} {B:Option Addr} {m d k:Nat} {v:Int} (Y:RG w t B m d v k) (hk:k≤200000) :
 Calls Tryz.prog 126 #[.agg #[.bool t,.slice B m d]] w fun e w'=>∃ A n c,e=.returned (.agg #[.bool t,.slice A n c])∧Rd .u64 w' A n (Qaf B64 v.natAbs)∧n≤c∧Below w.heap.size w w':=by
 have hJ:=QfF v.natAbs;have HJ:=Lib.hid hJ
 have hm:m≤2000000:=Nat.le_trans Y.2.2.2 (by omega)
 have hY:=Y.2.1;clear hJ
 go_enter Tryz.func126,Tryz.ntmps126
 go_wp2_with fail
 generalize hW:World.alloc _ _=W
 obtain ⟨hb,XB,Z,hz⟩:=QmT hW;clear hW;replace hY:=hY.below hb
 replace hY:=hY.below (Below.refl _ _).drew
 replace XB:=XB.drew;replace Z:=Z.drew;replace hb:=hb.drew
 go_region_held3 (fun w'=>w'.cell? ⟨w.heap.size,0,none⟩=some (Value.bool t)∧w'.cell? ⟨w.heap.size,1,none⟩=some (Value.slice B m d))
  (first | with_reducible exact ⟨XB.c0,XB.c1⟩ | with_reducible exact ⟨(Qab _ _ _ _ _ _ (by omega)).trans XB.c0,(Qab _ _ _ _ _ _ (by omega)).trans XB.c1⟩)
  (first
  | (go_at_call 125;(with_reducible refine (Qk7 (Qaf B32 v.natAbs) B m d _ hY (Qag Qah _) hm).mono ?_);rintro e w1 ⟨A1,n1,c1,rfl,p1,p2,p3,hh⟩
     rw [HJ.out] at p3;replace XB:=XB.below hh;replace Z:=Z.below hh;replace hb:=Qaj hb hh;obtain ⟨r0,r1⟩:=Z.all;have r2:=Z.f0;have r3:=Z.f1))
 go_wp2
 have hf0:=(Z.set2 (.bool t) (.slice A1 n1 c1)).c0
 have hf1:=(Z.set2 (.bool t) (.slice A1 n1 c1)).c1
 refine bodyPost_ret (v:=.agg #[.bool t,.slice A1 n1 c1]) (by simp [results,Tryz.results126,go_sem,hf0,hf1]) rfl ?_
 refine ⟨A1,n1,c1,rfl,?_,p1,(hb.setCell (by show w.heap.size≤_;simp) _).setCell (by show w.heap.size≤_;simp) _⟩
 exact p3.rd.only (Z.offx p3.rd) (((Only.refl (w.heap.size+1) w1).setCell 0 _).setCell 1 _)
theorem QsH {A:Option Addr} {n c V k:Nat} (Y:RN w A n c V k) (hk:k≤200000) :
 Calls Tryz.prog 125 #[.slice A n c] w fun e w'=>∃ A n c,e=.returned (.slice A n c)∧Rd .u64 w' A n (Qaf B64 V)∧n≤c∧Below w.heap.size w w':=by
 refine (Qk7 (Qaf B32 V) A n c w Y.1 (Qag Qah _) (Nat.le_trans Y.2.2 (by omega))).mono ?_
 rintro e w' ⟨A1,n1,c1,rfl,p1,p2,p3,p4⟩
 rw [QfF] at p3
 exact ⟨A1,n1,c1,rfl,p3.rd,p1,p4⟩
theorem QmO {w W:World} {x0 x1 x2 x3 x4 x5:Value} (h:((w.alloc (Obj.cells #[x0,x1,x2] 42)).alloc (Obj.cells #[x3,x4,x5] 27))=W):Below w.heap.size w W∧B3R W (w.heap.size) x0 x1 x2∧B3 W (w.heap.size+1) x3 x4 x5∧W.heap.size=w.heap.size+2:=by subst h;exact ⟨by exact (((Below.refl _ _).alloc (Nat.le_refl _) _).alloc (by simp) _),by exact (B3R.new' _ _ _ _ _ rfl).alloc _,by exact B3.new' _ _ _ _ _ (by simp),by simp⟩
theorem Qq8 {s:Bool} {A A':Option Addr} {n c n' c' k:Nat} {v:Rat} (X:RQ w s A n c A' n' c' v k) (hk:k≤100000) (K:Nat) (h1:v.num.natAbs < B64 ^ K) (h2:v.den < B64 ^ K) :
 Calls Tryz.prog 96 #[.agg #[.bool s,.slice A n c,.slice A' n' c']] w (QbM w v K):=by
 have hs:s=decide (v.num < 0):=X.pg.1
 have HS:=Lib.hid hs
 have HK:Hid ((Qaf B64 v.num.natAbs).length≤K∧(Qaf B64 v.den).length≤K):=⟨Qaq Qae h1,Qaq Qae h2⟩
 clear h1 h2;clear hs
 go_enter Tryz.func96,Tryz.ntmps96
 go_wp2_with fail
 generalize hW:World.alloc _ _=W
 obtain ⟨hb,XA,Z,hzW⟩:=QmO hW;clear hW;replace X:=X.below hb;obtain ⟨xa0,xa1,xa2⟩:=XA.all
 go_upto_region 2 with (first
  | (go_at_call 125;(with_reducible refine (QsH X.qn (by omega)).mono ?_);rintro e w_q ⟨A_q,n_q,c_q,rfl,q,qc,hh⟩
     (try replace X:=X.below hh);(try replace p:=p.below hh);(try replace XA:=XA.below hh);(try replace Z:=Z.below hh);replace hb:=Qaj hb hh;obtain ⟨xa0,xa1,xa2⟩:=XA.all))
 have hq0:((n_q:Int) == 0)=false:=by
  have h1:=q.1;rw [Qa6 Qae v.den_nz] at h1
  simp at h1 ⊢
  omega
 have zf0:=Z.f0;have zf1:=Z.f1;have zf2:=Z.f2;obtain ⟨z0,z1,z2⟩:=Z.all
 go_wp2_with (first
  | (go_at_call 126;(with_reducible refine (out2c X.pg (by omega)).mono ?_);rintro e w_p ⟨A_p,n_p,c_p,rfl,p,pc,hh⟩
     (try replace X:=X.below hh);(try replace q:=q.below hh);(try replace XA:=XA.below hh);(try replace Z:=Z.below hh);replace hb:=Qaj hb hh;obtain ⟨xa0,xa1,xa2⟩:=XA.all;have zf0:=Z.f0;have zf1:=Z.f1;have zf2:=Z.f2;obtain ⟨z0,z1,z2⟩:=Z.all))
 have Z2:=Z.set3 (.bool s) (.slice A_p n_p c_p) (.slice A_q n_q c_q)
 obtain ⟨g0,g1,g2⟩:=Z2.all
 refine bodyPost_ret (v:=.agg #[.bool s,.slice A_p n_p c_p,.slice A_q n_q c_q]) (by simp [results,Tryz.results96,go_sem,g0,g1,g2]) rfl ?_
 have ho:=(((Only.refl (w.heap.size+1) w_p).setCell 0 (Value.bool s)).setCell 1 (Value.slice A_p n_p c_p)).setCell 2 (Value.slice A_q n_q c_q)
 exact ⟨s,A_p,n_p,c_p,A_q,n_q,c_q,rfl,⟨⟨HS.out,p.only (Z.offx p) ho,pc,by rw [← p.1];exact HK.out.1⟩,q.only (Z.offx q) ho,qc,by rw [← q.1];exact HK.out.2⟩,Qao hb (by omega) _ _ _⟩
end
section
open Go Go.RowKit
theorem QlL (v:Int) (h1:-9223372036854775808≤v) (h2:v < 9223372036854775808) (w:World):Calls Tryz.prog 92 #[.int .i64 v] w (Qcl w v 2):=by
 by_cases h:v < 0
 · obtain ⟨V,rfl⟩:∃ V:Nat,v=-(V:Int):=⟨v.natAbs,by omega⟩
   exact Qqw V (by omega) (by omega) w
 · obtain ⟨V,rfl⟩:∃ V:Nat,v=(V:Int):=⟨v.natAbs,by omega⟩
   exact Qqm V (by omega) w
end
section
open Go Go.RowKit
theorem RG.of_f {A:Option Addr} {n c V k:Nat} (h:RN w A n c V k):RG w false A n c (iv false V) k:=RG.of_made (neg:=false) h rfl
theorem RG.of_t {A:Option Addr} {n c V k:Nat} (h:RN w A n c V k):RG w (decide (0 < n)) A n c (iv true V) k:=RG.of_made (neg:=true) h rfl
theorem QjP (p:Int):(Rat.divInt p 1).num=p∧(Rat.divInt p 1).den=1:=by rw [int1];exact ⟨rfl,rfl⟩
theorem rof3 (p q:Int) (hp1:-9223372036854775808≤p) (hp2:p < 9223372036854775808) (hq1:-9223372036854775808≤q) (hq2:q < 9223372036854775808) (h0:((q:Int) == 0)=false) (w:World) :
 Calls Tryz.prog 97 #[.int .i64 p,.int .i64 q] w (Qcm w (Rat.divInt p q) 2):=by
 have hq0:q ≠ 0:=by simpa using h0
 have HQ0:Hid ((q:Int).natAbs ≠ 0):=by show (q:Int).natAbs ≠ 0;omega
 have H1:=Lib.hid hp1;have H2:=Lib.hid hp2;have H3:=Lib.hid hq1;have H4:=Lib.hid hq2;clear hq0;clear hp1 hp2 hq1 hq2
 go_enter Tryz.func97,Tryz.ntmps97
 go_upto_region 1 with (fail)
 generalize hW:World.alloc _ _=W
 obtain ⟨hb,Z,hzW⟩:=Qje hW;clear hW
 go_upto_region 4 with (first
  | (go_at_call 92;(with_reducible refine (QlL p H1.out H2.out _).mono ?_);rintro e w_x ⟨s_x,A_x,n_x,c_x,rfl,x,hh⟩
     (try replace y:=y.below hh);(try replace r:=r.below hh);(try replace XP:=XP.below hh);(try replace XQ:=XQ.below hh);(try replace Z:=Z.below hh);replace hb:=Qaj hb hh)
  | (go_at_call 92;(with_reducible refine (QlL q H3.out H4.out _).mono ?_);rintro e w_y ⟨s_y,A_y,n_y,c_y,rfl,y,hh⟩
     (try replace x:=x.below hh);(try replace r:=r.below hh);(try replace XP:=XP.below hh);(try replace XQ:=XQ.below hh);(try replace Z:=Z.below hh);replace hb:=Qaj hb hh))
 generalize hW:World.alloc _ _=W2
 obtain ⟨hh,XP,XQ,hzW2⟩:=Qkn hW;clear hW;(try replace x:=x.below hh);(try replace y:=y.below hh);(try replace Z:=Z.below hh);replace hb:=Qaj hb hh
 have hsx:s_x=decide (p < 0):=x.1
 have hsy:s_y=decide (q < 0):=y.1
 have HE:Hid (mkRat (iv (s_x != s_y) p.natAbs) (q:Int).natAbs=Rat.divInt p q):=by
  show _=_
  rw [← Qq9,hsx,hsy,QfQ]
  first | rfl | rw [QfQ]
 have hnx:=Qlx x.rn;have HNX:=Lib.hid hnx;have xr:=x.rn;have yr:=y.rn;clear hsx hsy hnx x y
 cases s_x <;> cases s_y
 · have xp0:=XP.c0
   have xp1:=XP.c1;obtain ⟨xq0,xq1⟩:=XQ.all;have zf0:=Z.f0;have zf1:=Z.f1;have zf2:=Z.f2;obtain ⟨z0,z1,z2⟩:=Z.all
   have HE2:Hid (mkRat (iv false p.natAbs) (q:Int).natAbs=Rat.divInt p q):=HE
   go_wp2_with (first
    | (go_at_call 56;(with_reducible refine (QdD (RG.of_f xr) yr (by decide) HQ0.out).mono ?_);rintro e w_r ⟨s_r,A_r,n_r,c_r,B_r,m_r,d_r,rfl,r,hh⟩
       rw [HE2.out] at r;(try replace Z:=Z.below hh);replace hb:=Qaj hb hh;have zf0:=Z.f0;have zf1:=Z.f1;have zf2:=Z.f2;obtain ⟨z0,z1,z2⟩:=Z.all))
   have Z2:=Z.set3 (.bool s_r) (.slice A_r n_r c_r) (.slice B_r m_r d_r)
   obtain ⟨g0,g1,g2⟩:=Z2.all
   refine bodyPost_ret (v:=.agg #[.bool s_r,.slice A_r n_r c_r,.slice B_r m_r d_r]) (by simp [results,Tryz.results97,go_sem,g0,g1,g2]) rfl ?_
   exact ⟨s_r,A_r,n_r,c_r,B_r,m_r,d_r,rfl,r.set3 Z _ _ _,Qao hb (by omega) _ _ _⟩
 · have xp0:=XP.c0
   have xp1:=XP.c1;obtain ⟨xq0,xq1⟩:=XQ.all;have zf0:=Z.f0;have zf1:=Z.f1;have zf2:=Z.f2;obtain ⟨z0,z1,z2⟩:=Z.all
   have HE2:Hid (mkRat (iv true p.natAbs) (q:Int).natAbs=Rat.divInt p q):=HE
   go_wp2_with (first
    | (go_at_call 56;(with_reducible refine (QdD (RG.of_t xr) yr (by decide) HQ0.out).mono ?_);rintro e w_r ⟨s_r,A_r,n_r,c_r,B_r,m_r,d_r,rfl,r,hh⟩
       rw [HE2.out] at r;(try replace Z:=Z.below hh);replace hb:=Qaj hb hh;have zf0:=Z.f0;have zf1:=Z.f1;have zf2:=Z.f2;obtain ⟨z0,z1,z2⟩:=Z.all))
   have Z2:=Z.set3 (.bool s_r) (.slice A_r n_r c_r) (.slice B_r m_r d_r)
   obtain ⟨g0,g1,g2⟩:=Z2.all
   refine bodyPost_ret (v:=.agg #[.bool s_r,.slice A_r n_r c_r,.slice B_r m_r d_r]) (by simp [results,Tryz.results97,go_sem,g0,g1,g2]) rfl ?_
   exact ⟨s_r,A_r,n_r,c_r,B_r,m_r,d_r,rfl,r.set3 Z _ _ _,Qao hb (by omega) _ _ _⟩
 · have xp0:=XP.c0
   have xp1:=XP.c1;obtain ⟨xq0,xq1⟩:=XQ.all;have zf0:=Z.f0;have zf1:=Z.f1;have zf2:=Z.f2;obtain ⟨z0,z1,z2⟩:=Z.all
   have HE2:Hid (mkRat (iv true p.natAbs) (q:Int).natAbs=Rat.divInt p q):=HE
   go_wp2_with (first
    | (go_at_call 56;(with_reducible refine (QdD (RG.of_t xr) yr (by decide) HQ0.out).mono ?_);rintro e w_r ⟨s_r,A_r,n_r,c_r,B_r,m_r,d_r,rfl,r,hh⟩
       rw [HE2.out] at r;(try replace Z:=Z.below hh);replace hb:=Qaj hb hh;have zf0:=Z.f0;have zf1:=Z.f1;have zf2:=Z.f2;obtain ⟨z0,z1,z2⟩:=Z.all))
   have Z2:=Z.set3 (.bool s_r) (.slice A_r n_r c_r) (.slice B_r m_r d_r)
   obtain ⟨g0,g1,g2⟩:=Z2.all
   refine bodyPost_ret (v:=.agg #[.bool s_r,.slice A_r n_r c_r,.slice B_r m_r d_r]) (by simp [results,Tryz.results97,go_sem,g0,g1,g2]) rfl ?_
   exact ⟨s_r,A_r,n_r,c_r,B_r,m_r,d_r,rfl,r.set3 Z _ _ _,Qao hb (by omega) _ _ _⟩
 · have xp0:=XP.c0
   have xp1:=XP.c1;obtain ⟨xq0,xq1⟩:=XQ.all;have zf0:=Z.f0;have zf1:=Z.f1;have zf2:=Z.f2;obtain ⟨z0,z1,z2⟩:=Z.all
   have HE2:Hid (mkRat (iv false p.natAbs) (q:Int).natAbs=Rat.divInt p q):=HE
   go_wp2_with (first
    | (go_at_call 56;(with_reducible refine (QdD (RG.of_f xr) yr (by decide) HQ0.out).mono ?_);rintro e w_r ⟨s_r,A_r,n_r,c_r,B_r,m_r,d_r,rfl,r,hh⟩
       rw [HE2.out] at r;(try replace Z:=Z.below hh);replace hb:=Qaj hb hh;have zf0:=Z.f0;have zf1:=Z.f1;have zf2:=Z.f2;obtain ⟨z0,z1,z2⟩:=Z.all))
   have Z2:=Z.set3 (.bool s_r) (.slice A_r n_r c_r) (.slice B_r m_r d_r)
   obtain ⟨g0,g1,g2⟩:=Z2.all
   refine bodyPost_ret (v:=.agg #[.bool s_r,.slice A_r n_r c_r,.slice B_r m_r d_r]) (by simp [results,Tryz.results97,go_sem,g0,g1,g2]) rfl ?_
   exact ⟨s_r,A_r,n_r,c_r,B_r,m_r,d_r,rfl,r.set3 Z _ _ _,Qao hb (by omega) _ _ _⟩
end
section
open Go Go.RowKit
theorem Qio (M:Nat) {s:Bool} {A A':Option Addr} {n c n' c':Nat} (w:World) (L:Bool) (hL:decide (n≤M∧n'≤M)=L) :
 Calls Tryz.prog 85 #[.agg #[.bool s,.slice A n c,.slice A' n' c'],.int .i64 (M:Int)] w fun e w'=>e=.returned (.bool L)∧Below w.heap.size w w':=by
 have HL:=Lib.hid hL;clear hL
 go_enter Tryz.func85,Tryz.ntmps85
 go_wp2_with fail
 generalize hW:World.alloc _ _=W
 obtain ⟨hb,XA,hzW⟩:=Qbb hW;clear hW;obtain ⟨xa0,xa1,xa2⟩:=XA.all
 go_wp2_with fail
 · have h:n≤M:=by assumption
   go_ret
   refine ⟨?_,by first | assumption | exact (Below.refl _ _).alloc (Nat.le_refl _) _⟩
   show Ending.returned (.bool (decide (n'≤M)))=_
   rw [← HL.out]
   by_cases h2:n'≤M
   · rw [decide_eq_true (show n'≤M by omega),decide_eq_true (show n≤M∧n'≤M by omega)]
   · rw [decide_eq_false (show ¬ n'≤M by omega),decide_eq_false (show ¬ (n≤M∧n'≤M) by omega)]
 · have h:M < n:=by omega
   go_ret
   refine ⟨?_,by first | assumption | exact (Below.refl _ _).alloc (Nat.le_refl _) _⟩
   show Ending.returned (.bool false)=_
   rw [← HL.out,decide_eq_false (show ¬ (n≤M∧n'≤M) by omega)]
theorem QkN {s:Bool} {A A':Option Addr} {n c n' c':Nat} (w:World) (L:Bool) (hL:decide (n≤6∧n'≤6)=L) :
 Calls Tryz.prog 85 #[.agg #[.bool s,.slice A n c,.slice A' n' c'],.int .i64 6] w fun e w'=>e=.returned (.bool L)∧Below w.heap.size w w':=Qio 6 w L hL
end
end Go.Proofs.YthbhngeiiabagaaGreat
