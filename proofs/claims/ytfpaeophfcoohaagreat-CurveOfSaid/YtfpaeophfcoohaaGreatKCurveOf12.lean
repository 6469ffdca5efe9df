/- CurveOf: part 12. -/
import Derived.Laws.IdiomRangeMap
import Derived.LoopN
import Derived.Test.YtfpaeophfcoohaaGreatKCurveOf7
import Derived.Test.YtfpaeophfcoohaaGreatKCurveOf8
import Derived.Test.YtfpaeophfcoohaaGreatKCurveOf9
import Derived.Test.YtfpaeophfcoohaaGreatKCurveOf10
import Derived.Test.YtfpaeophfcoohaaGreatKCurveOf11
set_option linter.unusedVariables false
set_option maxRecDepth 100000
set_option maxHeartbeats 16000000
variable {w:Go.World}
variable {s_p t_p:Bool} {A_p B_p E_p F_p:Option Go.Addr} {n_p c_p m_p d_p i_p e_p j_p f_p:Nat}
variable {s_q t_q:Bool} {A_q B_q E_q F_q:Option Go.Addr} {n_q c_q m_q d_q i_q e_q j_q f_q:Nat}
variable {s_r t_r:Bool} {A_r B_r E_r F_r:Option Go.Addr} {n_r c_r m_r d_r i_r e_r j_r f_r:Nat}
namespace Go.Proofs.YtfpaeophfcoohaaGreat
section
open Go Go.RowKit
def StaysIn (L:List BoxOp) (F:Value→World→Prop):Prop:=(∀ x w w',F x w→Below w.heap.size w w'→F x w')∧∀ p ∈ L,∀ x w w' g cs,F x w→BoxAt p.T w g cs→Only g w w'→F x w'
theorem Stays.inn {F:Value→World→Prop} (h:Stays F) (L:List BoxOp):StaysIn L F:=⟨h.1,fun p _ x w w' g cs=>h.2 p.T x w w' g cs⟩
section
variable {P:Program} {ops:Array Oper} {Q:Exit→Act→World→Prop}
theorem wp_region_flowsT {id:Nat} {a:Act} {w0:World} (l:List Nat) (L:List BoxOp) (F:Nat→Value→World→Prop)
 (hm:P.follows .mixedOrders=true) (hb:backB ops=true) (hl:ops.toList.filterMap (·.dst)=l) (hn:l.Nodup)
 (hL:∀ p ∈ L,BoxIn P ops p) (hT:∀ p ∈ L,∀ q ∈ L,p.tA=q.tA→p=q) (hS:∀ p ∈ L,∀ q ∈ L,p.is=q.is→p=q)
 (hone:∀ (i:Nat) (o:Oper),ops[i]?=some o→o.dst=none→∃ p ∈ L,p.is=i) (hst:∀ t,StaysIn L (F t))
 (hval:∀ (i:Nat) (o:Oper) (t:Nat) (v:Nat→Value) (w':World),ops[i]?=some o→(∀ p ∈ L,t ≠ p.tA)→o.dst=some t→Below w0.heap.size w0 w' →
  (∀ e ∈ o.after,Region.binds .any e=true→∀ (oe:Oper) (te:Nat),ops[e.on]?=some oe→oe.dst=some te→(∀ p ∈ L,te ≠ p.tA)→F te (v te) w') →
  wpOp P ops Q i (fun a'' w''=>∃ x,a''=(putAll a l v).put (some t) x∧Below w'.heap.size w' w''∧F t x w'') (putAll a l v) w')
 (hstore:∀ p ∈ L,∀ (os:Oper) (v:Nat→Value) (w':World) (g:Nat),ops[p.is]?=some os→Below w0.heap.size w0 w'→v p.tA=.pointer (some ⟨g,0,none⟩)→BoxAt p.T w' g p.zs →
  (∀ e ∈ os.after,Region.binds .any e=true→∀ (oe:Oper) (te:Nat),ops[e.on]?=some oe→oe.dst=some te→(∀ p ∈ L,te ≠ p.tA)→F te (v te) w') →
  os.wp P (putAll a l v) w' (fun a'' w''=>a''=putAll a l v∧Only g w' w''∧∃ cs',BoxAt p.T w'' g cs'∧p.Fst cs' w'') Q)
 (hend:∀ (v:Nat→Value) (w':World),Below w0.heap.size w0 w'→(∀ (i:Nat) (o:Oper) (t:Nat),ops[i]?=some o→o.dst=some t→(∀ p ∈ L,t ≠ p.tA)→F t (v t) w') →
  (∀ p ∈ L,∃ g cs,v p.tA=.pointer (some ⟨g,0,none⟩)∧w0.heap.size≤g∧BoxAt p.T w' g cs∧p.Fst cs w')→(∀ p ∈ L,∀ q ∈ L,p.tA ≠ q.tA→v p.tA ≠ v q.tA)→Q .normal (putAll a l v) w') :
 (Code.region id ops true).wp P Q a w0:=by
 have lt_of:∀ {i:Nat} {o:Oper},ops[i]?=some o→i < ops.size:=fun {i o} h=>by
  rcases Nat.lt_or_ge i ops.size with k | k
  · exact k
  · rw [Array.getElem?_eq_none k] at h;cases h
 have hmem:∀ {i:Nat} {o:Oper} {t:Nat},ops[i]?=some o→o.dst=some t→t ∈ l:=fun {i o t} h d=>by
  rw [← hl];exact List.mem_filterMap.2 ⟨o,List.mem_of_getElem? (by simpa using h),d⟩
 have hinj:∀ {i j:Nat} {oi oj:Oper} {t:Nat},ops[i]?=some oi→ops[j]?=some oj→oi.dst=some t→oj.dst=some t→i=j:=fun {i j oi oj t} h1 h2 d1 d2 =>
  once_of (l:=ops.toList) (by rw [hl];exact hn) (by simpa using h1) (by simpa using h2) d1 d2
 -- a filling operation is no making one,and none that tells a value
 have his:∀ p ∈ L,∀ (i:Nat) (o:Oper) (t:Nat),ops[i]?=some o→o.dst=some t→p.is ≠ i:=by
  intro p hp i o t ho ht q
  obtain ⟨os,h1,h2,_⟩:=(hL p hp).fill
  subst q
  rw [h1] at ho
  cases ho
  rw [h2] at ht
  cases ht
 refine wp_region_inv l (JFlows ops w0 L F) hm hb ?_ ?_ ?_ ?_
 · refine ⟨(Below.refl _ _).drew,?_,?_,?_,?_⟩
   · intro i o t _ _ _ h;exact absurd (show false=true from h) (by decide)
   · intro p _ h;exact absurd (show false=true from h) (by decide)
   · intro p _ h;exact absurd (show false=true from h) (by decide)
   · intro p _ q _ _ h;exact absurd (show false=true from h) (by decide)
 · intro D D' v w hD h
   have ea:∀ p ∈ L,D p.ia=D' p.ia:=fun p hp=>by obtain ⟨oa,h1,_⟩:=(hL p hp).alloc;exact hD _ (lt_of h1)
   have es:∀ p ∈ L,D p.is=D' p.is:=fun p hp=>by obtain ⟨os,h1,_⟩:=(hL p hp).fill;exact hD _ (lt_of h1)
   refine ⟨h.below,fun i o t hi ht hne hd=>h.vals i o t hi ht hne (by rw [hD i (lt_of hi)];exact hd),?_,?_,?_⟩
   · intro p hp;rw [← ea p hp,← es p hp];exact h.box p hp
   · intro p hp;rw [← ea p hp,← es p hp];exact h.after p hp
   · intro p hp q hq;rw [← ea p hp,← ea q hq];exact h.apart p hp q hq
 · intro i o D v w' ho hDi hall J
   cases hd:o.dst with
   | none =>
     obtain ⟨p,hp,rfl⟩:=hone i o ho hd
     obtain ⟨os,h1,h2,hgs,e,he,hbd,hon⟩:=(hL p hp).fill
     rw [h1] at ho
     cases ho
     have hDa:D p.ia=true:=by rw [← hon];exact hall e he hbd
     obtain ⟨g,cs,p1,p2,p3,_,pz⟩:=J.box p hp hDa
     obtain rfl:=pz hDi
     refine wpOp_plain' h1 hgs ?_
     refine Oper.wp_mono ?_ (hstore p hp _ v w' g h1 J.below p1 p3 (fun e he hb' oe te h1 h2 h3=>J.vals e.on oe te h1 h2 h3 (hall e he hb')))
     rintro a'' w'' ⟨rfl,ho2,cs',hB,hF⟩
     have nia:∀ q ∈ L,q.ia ≠ p.is:=fun q hq k=>by
      obtain ⟨oa,k1,k2,_⟩:=(hL q hq).alloc
      exact his p hp q.ia oa q.tA k1 k2 k.symm
     refine ⟨v,rfl,Below.only J.below p2 J.below.size ho2,?_,?_,?_,?_⟩
     · intro j oj t hj ht hne hd2
       have hji:j ≠ p.is:=fun q=>his p hp j oj t hj ht q.symm
       rw [upd_ne _ _ hji] at hd2
       exact (hst t).2 p hp _ _ _ _ _ (J.vals j oj t hj ht hne hd2) p3 ho2
     · intro q hq hDq
       rw [upd_ne _ _ (nia q hq)] at hDq
       by_cases hpq:q.tA=p.tA
       · obtain rfl:=hT q hq p hp hpq
         exact ⟨g,cs',p1,p2,hB,fun _=>hF,fun k=>by rw [upd_same] at k;cases k⟩
       · obtain ⟨g2,cs2,r1,r2,r3,r4,r5⟩:=J.box q hq hDq
         have hgg:g2 ≠ g:=fun k=>J.apart q hq p hp hpq hDq hDa (by rw [r1,p1,k])
         have hss:q.is ≠ p.is:=fun k=>hpq (by rw [hS q hq p hp k])
         refine ⟨g2,cs2,r1,r2,⟨(ho2.block g2 r3.lt hgg).trans r3.at_,r3.free⟩,fun k=>?_,fun k=>?_⟩
         · rw [upd_ne _ _ hss] at k
           exact (hL q hq).stays2 _ _ _ _ _ _ (r4 k) p3 ho2
         · rw [upd_ne _ _ hss] at k
           exact r5 k
     · intro q hq k
       rw [upd_ne _ _ (nia q hq)]
       by_cases hss:q.is=p.is
       · obtain rfl:=hS q hq p hp hss
         exact hDa
       · rw [upd_ne _ _ hss] at k
         exact J.after q hq k
     · intro q hq r hr hne k1 k2
       rw [upd_ne _ _ (nia q hq)] at k1
       rw [upd_ne _ _ (nia r hr)] at k2
       exact J.apart q hq r hr hne k1 k2
   | some t =>
     have nis:∀ q ∈ L,q.is ≠ i:=fun q hq=>his q hq i o t ho hd
     by_cases hA:∃ p ∈ L,t=p.tA
     · obtain ⟨p,hp,rfl⟩:=hA
       obtain ⟨oa,h1,h2,hga,halloc⟩:=(hL p hp).alloc
       have hii:i=p.ia:=hinj ho h1 hd h2
       subst hii
       rw [h1] at ho
       cases ho
       refine wpOp_plain' h1 hga ?_
       unfold Oper.wp
       rw [halloc,Oper.upon_value,h2]
       have hbl:=(Below.refl w'.heap.size w').alloc (Nat.le_refl _) (.cells p.zs p.T)
       have hnew:∀ q ∈ L,q.tA ≠ p.tA→q.ia ≠ p.ia:=fun q hq k r=>by
        obtain ⟨ob,k1,k2,_⟩:=(hL q hq).alloc
        rw [r,h1] at k1
        cases k1
        rw [h2] at k2
        exact k (Option.some.inj k2).symm
       refine ⟨_,putAll_put _ _ _ _ _ hn (hmem h1 h2),J.below.trans (hbl.mono J.below.size),?_,?_,?_,?_⟩
       · intro j oj t hj ht hne hd2
         have htp:=hne p hp
         have hji:j ≠ p.ia:=fun q=>htp (by subst q;rw [h1] at hj;cases hj;rw [h2] at ht;cases ht;rfl)
         rw [upd_ne _ _ hji] at hd2;rw [upd_ne _ _ htp]
         exact (hst t).1 _ _ _ (J.vals j oj t hj ht hne hd2) hbl
       · intro q hq hDq
         by_cases hqp:q.tA=p.tA
         · obtain rfl:=hT q hq p hp hqp
           refine ⟨w'.heap.size,q.zs,upd_same _ _ _,J.below.size,⟨heap_alloc_new _ _,(hL q hq).free⟩,fun h=>?_,fun _=>rfl⟩
           rw [upd_ne _ _ (nis q hq)] at h
           have:=J.after q hq h
           rw [hDi] at this
           cases this
         · rw [upd_ne _ _ (hnew q hq hqp)] at hDq
           obtain ⟨g,cs,r1,r2,r3,r4,r5⟩:=J.box q hq hDq
           refine ⟨g,cs,by rw [upd_ne _ _ hqp];exact r1,r2,r3.below hbl,fun h=>?_,fun h=>?_⟩
           · rw [upd_ne _ _ (nis q hq)] at h
             exact (hL q hq).stays _ _ _ (r4 h) hbl
           · rw [upd_ne _ _ (nis q hq)] at h
             exact r5 h
       · intro q hq h
         rw [upd_ne _ _ (nis q hq)] at h
         by_cases hqp:q.tA=p.tA
         · obtain rfl:=hT q hq p hp hqp
           rw [upd_same]
         · rw [upd_ne _ _ (hnew q hq hqp)]
           exact J.after q hq h
       · intro q hq r hr hne k1 k2
         by_cases hqp:q.tA=p.tA
         · obtain rfl:=hT q hq p hp hqp
           have hrp:r.tA ≠ q.tA:=Ne.symm hne
           rw [upd_ne _ _ (hnew r hr hrp)] at k2
           obtain ⟨g,cs,r1,_,r3,_⟩:=J.box r hr k2
           rw [upd_same,upd_ne _ _ hrp,r1]
           intro k
           simp only [Value.pointer.injEq,Option.some.injEq,Addr.mk.injEq] at k
           have:=r3.lt
           omega
         · rw [upd_ne _ _ (hnew q hq hqp)] at k1
           by_cases hrp:r.tA=p.tA
           · obtain rfl:=hT r hr p hp hrp
             obtain ⟨g,cs,r1,_,r3,_⟩:=J.box q hq k1
             rw [upd_same,upd_ne _ _ hqp,r1]
             intro k
             simp only [Value.pointer.injEq,Option.some.injEq,Addr.mk.injEq] at k
             have:=r3.lt
             omega
           · rw [upd_ne _ _ (hnew r hr hrp)] at k2
             rw [upd_ne _ _ hqp,upd_ne _ _ hrp]
             exact J.apart q hq r hr hne k1 k2
     · have htA:∀ p ∈ L,t ≠ p.tA:=fun p hp k=>hA ⟨p,hp,k⟩
       have nia:∀ q ∈ L,q.ia ≠ i:=fun q hq k=>by
        obtain ⟨oa,k1,k2,_⟩:=(hL q hq).alloc
        rw [k,ho] at k1
        cases k1
        rw [hd] at k2
        cases k2
        exact htA q hq rfl
       refine wpOp_mono ?_ (hval i o t v w' ho htA hd J.below (fun e he hb' oe te h1 h2 h3=>J.vals e.on oe te h1 h2 h3 (hall e he hb')))
       rintro a'' w'' ⟨x,rfl,hbl,hF⟩
       refine ⟨_,putAll_put _ _ _ _ _ hn (hmem ho hd),J.below.trans (hbl.mono J.below.size),?_,?_,?_,?_⟩
       · intro j oj t' hj ht hne hd2
         by_cases hji:j=i
         · subst hji
           rw [ho] at hj
           cases hj
           rw [hd] at ht
           cases ht
           rw [upd_same]
           exact hF
         · rw [upd_ne _ _ hji] at hd2
           have htt:t' ≠ t:=fun q=>hji (by subst q;exact hinj hj ho ht hd)
           rw [upd_ne _ _ htt]
           exact (hst t').1 _ _ _ (J.vals j oj t' hj ht hne hd2) hbl
       · intro q hq hDq
         rw [upd_ne _ _ (nia q hq)] at hDq
         obtain ⟨g,cs,r1,r2,r3,r4,r5⟩:=J.box q hq hDq
         refine ⟨g,cs,by rw [upd_ne _ _ (Ne.symm (htA q hq))];exact r1,r2,r3.below hbl,fun h=>?_,fun h=>?_⟩
         · rw [upd_ne _ _ (nis q hq)] at h
           exact (hL q hq).stays _ _ _ (r4 h) hbl
         · rw [upd_ne _ _ (nis q hq)] at h
           exact r5 h
       · intro q hq h
         rw [upd_ne _ _ (nis q hq)] at h
         rw [upd_ne _ _ (nia q hq)]
         exact J.after q hq h
       · intro q hq r hr hne k1 k2
         rw [upd_ne _ _ (nia q hq)] at k1
         rw [upd_ne _ _ (nia r hr)] at k2
         rw [upd_ne _ _ (Ne.symm (htA q hq)),upd_ne _ _ (Ne.symm (htA r hr))]
         exact J.apart q hq r hr hne k1 k2
 · intro D v w' hall J
   refine hend v w' J.below (fun i o t hi ht hne=>J.vals i o t hi ht hne (hall i (lt_of hi))) ?_ ?_
   · intro p hp
     obtain ⟨oa,h1,_⟩:=(hL p hp).alloc
     obtain ⟨os,h2,_⟩:=(hL p hp).fill
     obtain ⟨g,cs,r1,r2,r3,r4,_⟩:=J.box p hp (hall _ (lt_of h1))
     exact ⟨g,cs,r1,r2,r3,r4 (hall _ (lt_of h2))⟩
   · intro p hp q hq hne
     obtain ⟨oa,h1,_⟩:=(hL p hp).alloc
     obtain ⟨ob,h2,_⟩:=(hL q hq).alloc
     exact J.apart p hp q hq hne (hall _ (lt_of h1)) (hall _ (lt_of h2))
end
end
section
open Go Go.RowKit
structure MV where
 a:QV
 b:QV
 c:QV
 d:QV
 e:QV
 f:QV
structure AM where
 a:Rat
 b:Rat
 c:Rat
 d:Rat
 e:Rat
 f:Rat
def AM.ax (m:AM) (x y:Rat):Rat:=m.a*x+m.c*y+m.e
def AM.ay (m:AM) (x y:Rat):Rat:=m.b*x+m.d*y+m.f
def AM.dx (m:AM) (x y:Rat):Rat:=m.a*x+m.c*y
def AM.dy (m:AM) (x y:Rat):Rat:=m.b*x+m.d*y
def AM.mul (m n:AM):AM:=⟨m.dx n.a n.b,m.dy n.a n.b,m.dx n.c n.d,m.dy n.c n.d,m.ax n.e n.f,m.ay n.e n.f⟩
def AM.det (m:AM):Rat:=m.a*m.d - m.b*m.c
def B18 (W:World) (g:Nat) (v0 v1 v2 v3 v4 v5 v6 v7 v8 v9 v10 v11 v12 v13 v14 v15 v16 v17:Value):Prop:=W.heap[g]?=some (.cells #[v0,v1,v2,v3,v4,v5,v6,v7,v8,v9,v10,v11,v12,v13,v14,v15,v16,v17] 33 (0,0))
section
variable {W W':World} {g:Nat} {v0 v1 v2 v3 v4 v5 v6 v7 v8 v9 v10 v11 v12 v13 v14 v15 v16 v17:Value}
theorem B18.c0 (h:B18 W g v0 v1 v2 v3 v4 v5 v6 v7 v8 v9 v10 v11 v12 v13 v14 v15 v16 v17):W.cell? ⟨g,0,none⟩=some v0:=by rw [cell_of_row W g 0 _ _ (0,0) h];rfl
theorem B18.c1 (h:B18 W g v0 v1 v2 v3 v4 v5 v6 v7 v8 v9 v10 v11 v12 v13 v14 v15 v16 v17):W.cell? ⟨g,1,none⟩=some v1:=by rw [cell_of_row W g 1 _ _ (0,0) h];rfl
theorem B18.c2 (h:B18 W g v0 v1 v2 v3 v4 v5 v6 v7 v8 v9 v10 v11 v12 v13 v14 v15 v16 v17):W.cell? ⟨g,2,none⟩=some v2:=by rw [cell_of_row W g 2 _ _ (0,0) h];rfl
theorem B18.c3 (h:B18 W g v0 v1 v2 v3 v4 v5 v6 v7 v8 v9 v10 v11 v12 v13 v14 v15 v16 v17):W.cell? ⟨g,3,none⟩=some v3:=by rw [cell_of_row W g 3 _ _ (0,0) h];rfl
theorem B18.c4 (h:B18 W g v0 v1 v2 v3 v4 v5 v6 v7 v8 v9 v10 v11 v12 v13 v14 v15 v16 v17):W.cell? ⟨g,4,none⟩=some v4:=by rw [cell_of_row W g 4 _ _ (0,0) h];rfl
theorem B18.c5 (h:B18 W g v0 v1 v2 v3 v4 v5 v6 v7 v8 v9 v10 v11 v12 v13 v14 v15 v16 v17):W.cell? ⟨g,5,none⟩=some v5:=by rw [cell_of_row W g 5 _ _ (0,0) h];rfl
theorem B18.c6 (h:B18 W g v0 v1 v2 v3 v4 v5 v6 v7 v8 v9 v10 v11 v12 v13 v14 v15 v16 v17):W.cell? ⟨g,6,none⟩=some v6:=by rw [cell_of_row W g 6 _ _ (0,0) h];rfl
theorem B18.c7 (h:B18 W g v0 v1 v2 v3 v4 v5 v6 v7 v8 v9 v10 v11 v12 v13 v14 v15 v16 v17):W.cell? ⟨g,7,none⟩=some v7:=by rw [cell_of_row W g 7 _ _ (0,0) h];rfl
theorem B18.c8 (h:B18 W g v0 v1 v2 v3 v4 v5 v6 v7 v8 v9 v10 v11 v12 v13 v14 v15 v16 v17):W.cell? ⟨g,8,none⟩=some v8:=by rw [cell_of_row W g 8 _ _ (0,0) h];rfl
theorem B18.c9 (h:B18 W g v0 v1 v2 v3 v4 v5 v6 v7 v8 v9 v10 v11 v12 v13 v14 v15 v16 v17):W.cell? ⟨g,9,none⟩=some v9:=by rw [cell_of_row W g 9 _ _ (0,0) h];rfl
theorem B18.c10 (h:B18 W g v0 v1 v2 v3 v4 v5 v6 v7 v8 v9 v10 v11 v12 v13 v14 v15 v16 v17):W.cell? ⟨g,10,none⟩=some v10:=by rw [cell_of_row W g 10 _ _ (0,0) h];rfl
theorem B18.c11 (h:B18 W g v0 v1 v2 v3 v4 v5 v6 v7 v8 v9 v10 v11 v12 v13 v14 v15 v16 v17):W.cell? ⟨g,11,none⟩=some v11:=by rw [cell_of_row W g 11 _ _ (0,0) h];rfl
theorem B18.c12 (h:B18 W g v0 v1 v2 v3 v4 v5 v6 v7 v8 v9 v10 v11 v12 v13 v14 v15 v16 v17):W.cell? ⟨g,12,none⟩=some v12:=by rw [cell_of_row W g 12 _ _ (0,0) h];rfl
theorem B18.c13 (h:B18 W g v0 v1 v2 v3 v4 v5 v6 v7 v8 v9 v10 v11 v12 v13 v14 v15 v16 v17):W.cell? ⟨g,13,none⟩=some v13:=by rw [cell_of_row W g 13 _ _ (0,0) h];rfl
theorem B18.c14 (h:B18 W g v0 v1 v2 v3 v4 v5 v6 v7 v8 v9 v10 v11 v12 v13 v14 v15 v16 v17):W.cell? ⟨g,14,none⟩=some v14:=by rw [cell_of_row W g 14 _ _ (0,0) h];rfl
theorem B18.c15 (h:B18 W g v0 v1 v2 v3 v4 v5 v6 v7 v8 v9 v10 v11 v12 v13 v14 v15 v16 v17):W.cell? ⟨g,15,none⟩=some v15:=by rw [cell_of_row W g 15 _ _ (0,0) h];rfl
theorem B18.c16 (h:B18 W g v0 v1 v2 v3 v4 v5 v6 v7 v8 v9 v10 v11 v12 v13 v14 v15 v16 v17):W.cell? ⟨g,16,none⟩=some v16:=by rw [cell_of_row W g 16 _ _ (0,0) h];rfl
theorem B18.c17 (h:B18 W g v0 v1 v2 v3 v4 v5 v6 v7 v8 v9 v10 v11 v12 v13 v14 v15 v16 v17):W.cell? ⟨g,17,none⟩=some v17:=by rw [cell_of_row W g 17 _ _ (0,0) h];rfl
theorem B18.all (h:B18 W g v0 v1 v2 v3 v4 v5 v6 v7 v8 v9 v10 v11 v12 v13 v14 v15 v16 v17):W.cell? ⟨g,0,none⟩=some v0∧W.cell? ⟨g,1,none⟩=some v1∧W.cell? ⟨g,2,none⟩=some v2∧W.cell? ⟨g,3,none⟩=some v3∧W.cell? ⟨g,4,none⟩=some v4∧W.cell? ⟨g,5,none⟩=some v5∧W.cell? ⟨g,6,none⟩=some v6∧W.cell? ⟨g,7,none⟩=some v7∧W.cell? ⟨g,8,none⟩=some v8∧W.cell? ⟨g,9,none⟩=some v9∧W.cell? ⟨g,10,none⟩=some v10∧W.cell? ⟨g,11,none⟩=some v11∧W.cell? ⟨g,12,none⟩=some v12∧W.cell? ⟨g,13,none⟩=some v13∧W.cell? ⟨g,14,none⟩=some v14∧W.cell? ⟨g,15,none⟩=some v15∧W.cell? ⟨g,16,none⟩=some v16∧W.cell? ⟨g,17,none⟩=some v17:=⟨h.c0,h.c1,h.c2,h.c3,h.c4,h.c5,h.c6,h.c7,h.c8,h.c9,h.c10,h.c11,h.c12,h.c13,h.c14,h.c15,h.c16,h.c17⟩
theorem B18.f0 (h:B18 W g v0 v1 v2 v3 v4 v5 v6 v7 v8 v9 v10 v11 v12 v13 v14 v15 v16 v17):W.frozen? ⟨g,0,none⟩=false:=frozen_of_row W g 0 _ _ h
theorem B18.f1 (h:B18 W g v0 v1 v2 v3 v4 v5 v6 v7 v8 v9 v10 v11 v12 v13 v14 v15 v16 v17):W.frozen? ⟨g,1,none⟩=false:=frozen_of_row W g 1 _ _ h
theorem B18.f2 (h:B18 W g v0 v1 v2 v3 v4 v5 v6 v7 v8 v9 v10 v11 v12 v13 v14 v15 v16 v17):W.frozen? ⟨g,2,none⟩=false:=frozen_of_row W g 2 _ _ h
theorem B18.f3 (h:B18 W g v0 v1 v2 v3 v4 v5 v6 v7 v8 v9 v10 v11 v12 v13 v14 v15 v16 v17):W.frozen? ⟨g,3,none⟩=false:=frozen_of_row W g 3 _ _ h
theorem B18.f4 (h:B18 W g v0 v1 v2 v3 v4 v5 v6 v7 v8 v9 v10 v11 v12 v13 v14 v15 v16 v17):W.frozen? ⟨g,4,none⟩=false:=frozen_of_row W g 4 _ _ h
theorem B18.f5 (h:B18 W g v0 v1 v2 v3 v4 v5 v6 v7 v8 v9 v10 v11 v12 v13 v14 v15 v16 v17):W.frozen? ⟨g,5,none⟩=false:=frozen_of_row W g 5 _ _ h
theorem B18.f6 (h:B18 W g v0 v1 v2 v3 v4 v5 v6 v7 v8 v9 v10 v11 v12 v13 v14 v15 v16 v17):W.frozen? ⟨g,6,none⟩=false:=frozen_of_row W g 6 _ _ h
theorem B18.f7 (h:B18 W g v0 v1 v2 v3 v4 v5 v6 v7 v8 v9 v10 v11 v12 v13 v14 v15 v16 v17):W.frozen? ⟨g,7,none⟩=false:=frozen_of_row W g 7 _ _ h
theorem B18.f8 (h:B18 W g v0 v1 v2 v3 v4 v5 v6 v7 v8 v9 v10 v11 v12 v13 v14 v15 v16 v17):W.frozen? ⟨g,8,none⟩=false:=frozen_of_row W g 8 _ _ h
theorem B18.f9 (h:B18 W g v0 v1 v2 v3 v4 v5 v6 v7 v8 v9 v10 v11 v12 v13 v14 v15 v16 v17):W.frozen? ⟨g,9,none⟩=false:=frozen_of_row W g 9 _ _ h
theorem B18.f10 (h:B18 W g v0 v1 v2 v3 v4 v5 v6 v7 v8 v9 v10 v11 v12 v13 v14 v15 v16 v17):W.frozen? ⟨g,10,none⟩=false:=frozen_of_row W g 10 _ _ h
theorem B18.f11 (h:B18 W g v0 v1 v2 v3 v4 v5 v6 v7 v8 v9 v10 v11 v12 v13 v14 v15 v16 v17):W.frozen? ⟨g,11,none⟩=false:=frozen_of_row W g 11 _ _ h
theorem B18.f12 (h:B18 W g v0 v1 v2 v3 v4 v5 v6 v7 v8 v9 v10 v11 v12 v13 v14 v15 v16 v17):W.frozen? ⟨g,12,none⟩=false:=frozen_of_row W g 12 _ _ h
theorem B18.f13 (h:B18 W g v0 v1 v2 v3 v4 v5 v6 v7 v8 v9 v10 v11 v12 v13 v14 v15 v16 v17):W.frozen? ⟨g,13,none⟩=false:=frozen_of_row W g 13 _ _ h
theorem B18.f14 (h:B18 W g v0 v1 v2 v3 v4 v5 v6 v7 v8 v9 v10 v11 v12 v13 v14 v15 v16 v17):W.frozen? ⟨g,14,none⟩=false:=frozen_of_row W g 14 _ _ h
theorem B18.f15 (h:B18 W g v0 v1 v2 v3 v4 v5 v6 v7 v8 v9 v10 v11 v12 v13 v14 v15 v16 v17):W.frozen? ⟨g,15,none⟩=false:=frozen_of_row W g 15 _ _ h
theorem B18.lt (h:B18 W g v0 v1 v2 v3 v4 v5 v6 v7 v8 v9 v10 v11 v12 v13 v14 v15 v16 v17):g < W.heap.size:=World.block_lt_of_cell? W _ h.c0
theorem B18.below (h:B18 W g v0 v1 v2 v3 v4 v5 v6 v7 v8 v9 v10 v11 v12 v13 v14 v15 v16 v17) (hb:Below W.heap.size W W'):B18 W' g v0 v1 v2 v3 v4 v5 v6 v7 v8 v9 v10 v11 v12 v13 v14 v15 v16 v17:=(hb.block g h.lt).trans h
theorem B18.alloc (h:B18 W g v0 v1 v2 v3 v4 v5 v6 v7 v8 v9 v10 v11 v12 v13 v14 v15 v16 v17) (o:Obj):B18 (W.alloc o) g v0 v1 v2 v3 v4 v5 v6 v7 v8 v9 v10 v11 v12 v13 v14 v15 v16 v17:=(Below.heap_alloc W o g h.lt).trans h
theorem B18.new' (W:World) (v0 v1 v2 v3 v4 v5 v6 v7 v8 v9 v10 v11 v12 v13 v14 v15 v16 v17:Value) (g:Nat) (hg:g=W.heap.size):B18 (W.alloc (.cells #[v0,v1,v2,v3,v4,v5,v6,v7,v8,v9,v10,v11,v12,v13,v14,v15,v16,v17] 33)) g v0 v1 v2 v3 v4 v5 v6 v7 v8 v9 v10 v11 v12 v13 v14 v15 v16 v17:=by subst hg;exact heap_alloc_new W _
theorem B18.set18 (h:B18 W g v0 v1 v2 v3 v4 v5 v6 v7 v8 v9 v10 v11 v12 v13 v14 v15 v16 v17) (a0 a1 a2 a3 a4 a5 a6 a7 a8 a9 a10 a11 a12 a13 a14 a15 a16 a17:Value):B18 ((((((((((((((((((W.setCell ⟨g,0,none⟩ a0).setCell ⟨g,1,none⟩ a1).setCell ⟨g,2,none⟩ a2).setCell ⟨g,3,none⟩ a3).setCell ⟨g,4,none⟩ a4).setCell ⟨g,5,none⟩ a5).setCell ⟨g,6,none⟩ a6).setCell ⟨g,7,none⟩ a7).setCell ⟨g,8,none⟩ a8).setCell ⟨g,9,none⟩ a9).setCell ⟨g,10,none⟩ a10).setCell ⟨g,11,none⟩ a11).setCell ⟨g,12,none⟩ a12).setCell ⟨g,13,none⟩ a13).setCell ⟨g,14,none⟩ a14).setCell ⟨g,15,none⟩ a15).setCell ⟨g,16,none⟩ a16).setCell ⟨g,17,none⟩ a17) g a0 a1 a2 a3 a4 a5 a6 a7 a8 a9 a10 a11 a12 a13 a14 a15 a16 a17:=by
 unfold B18 at h ⊢
 have h0:=heap_setCell_same _ g 0 _ _ a0 h
 simp only [List.setIfInBounds_toArray,List.set_cons_zero] at h0
 have h1:=heap_setCell_same _ g 1 _ _ a1 h0
 simp only [List.setIfInBounds_toArray,List.set_cons_zero,List.set_cons_succ] at h1
 have h2:=heap_setCell_same _ g 2 _ _ a2 h1
 simp only [List.setIfInBounds_toArray,List.set_cons_zero,List.set_cons_succ] at h2
 have h3:=heap_setCell_same _ g 3 _ _ a3 h2
 simp only [List.setIfInBounds_toArray,List.set_cons_zero,List.set_cons_succ] at h3
 have h4:=heap_setCell_same _ g 4 _ _ a4 h3
 simp only [List.setIfInBounds_toArray,List.set_cons_zero,List.set_cons_succ] at h4
 have h5:=heap_setCell_same _ g 5 _ _ a5 h4
 simp only [List.setIfInBounds_toArray,List.set_cons_zero,List.set_cons_succ] at h5
 have h6:=heap_setCell_same _ g 6 _ _ a6 h5
 simp only [List.setIfInBounds_toArray,List.set_cons_zero,List.set_cons_succ] at h6
 have h7:=heap_setCell_same _ g 7 _ _ a7 h6
 simp only [List.setIfInBounds_toArray,List.set_cons_zero,List.set_cons_succ] at h7
 have h8:=heap_setCell_same _ g 8 _ _ a8 h7
 simp only [List.setIfInBounds_toArray,List.set_cons_zero,List.set_cons_succ] at h8
 have h9:=heap_setCell_same _ g 9 _ _ a9 h8
 simp only [List.setIfInBounds_toArray,List.set_cons_zero,List.set_cons_succ] at h9
 have h10:=heap_setCell_same _ g 10 _ _ a10 h9
 simp only [List.setIfInBounds_toArray,List.set_cons_zero,List.set_cons_succ] at h10
 have h11:=heap_setCell_same _ g 11 _ _ a11 h10
 simp only [List.setIfInBounds_toArray,List.set_cons_zero,List.set_cons_succ] at h11
 have h12:=heap_setCell_same _ g 12 _ _ a12 h11
 simp only [List.setIfInBounds_toArray,List.set_cons_zero,List.set_cons_succ] at h12
 have h13:=heap_setCell_same _ g 13 _ _ a13 h12
 simp only [List.setIfInBounds_toArray,List.set_cons_zero,List.set_cons_succ] at h13
 have h14:=heap_setCell_same _ g 14 _ _ a14 h13
 simp only [List.setIfInBounds_toArray,List.set_cons_zero,List.set_cons_succ] at h14
 have h15:=heap_setCell_same _ g 15 _ _ a15 h14
 simp only [List.setIfInBounds_toArray,List.set_cons_zero,List.set_cons_succ] at h15
 have h16:=heap_setCell_same _ g 16 _ _ a16 h15
 simp only [List.setIfInBounds_toArray,List.set_cons_zero,List.set_cons_succ] at h16
 have h17:=heap_setCell_same _ g 17 _ _ a17 h16
 simp only [List.setIfInBounds_toArray,List.set_cons_zero,List.set_cons_succ] at h17
 exact h17
theorem B18.restm {k:Nat} (h:B18 W g v0 v1 v2 v3 v4 v5 v6 v7 v8 v9 v10 v11 v12 v13 v14 v15 v16 v17) (hne:g ≠ k) (ho:Only k W W'):B18 W' g v0 v1 v2 v3 v4 v5 v6 v7 v8 v9 v10 v11 v12 v13 v14 v15 v16 v17:=(ho.block g h.lt hne).trans h
def LVM (a:Addr):Sem Value:=loadVar 33 a
theorem open_LVM (a:Addr):loadVar 33 a=LVM a:=rfl
def STM (a:Addr) (v:Value):Sem Unit:=storeVar 33 a v
theorem open_STM (a:Addr) (v:Value):storeVar 33 a v=STM a v:=rfl
theorem B18.ld (h:B18 W g v0 v1 v2 v3 v4 v5 v6 v7 v8 v9 v10 v11 v12 v13 v14 v15 v16 v17):(LVM ⟨g,0,none⟩).run Tryz.prog W=.ok (.agg #[v0,v1,v2,v3,v4,v5,v6,v7,v8,v9,v10,v11,v12,v13,v14,v15,v16,v17]) W :=
 run_loadVar_row W g _ _ _ (0,0) _ h Tryz.underlying33 rfl (by kernel_rfl)
theorem B18.st (h:B18 W g v0 v1 v2 v3 v4 v5 v6 v7 v8 v9 v10 v11 v12 v13 v14 v15 v16 v17) (a0 a1 a2 a3 a4 a5 a6 a7 a8 a9 a10 a11 a12 a13 a14 a15 a16 a17:Value) (h1:∀ v ∈ [a0,a1,a2,a3,a4,a5,a6,a7,a8,a9,a10,a11,a12,a13,a14,a15,a16,a17],v.oneCell'=true):(STM ⟨g,0,none⟩ (.agg #[a0,a1,a2,a3,a4,a5,a6,a7,a8,a9,a10,a11,a12,a13,a14,a15,a16,a17])).run Tryz.prog W=.ok () ((((((((((((((((((W.setCell ⟨g,0,none⟩ a0).setCell ⟨g,1,none⟩ a1).setCell ⟨g,2,none⟩ a2).setCell ⟨g,3,none⟩ a3).setCell ⟨g,4,none⟩ a4).setCell ⟨g,5,none⟩ a5).setCell ⟨g,6,none⟩ a6).setCell ⟨g,7,none⟩ a7).setCell ⟨g,8,none⟩ a8).setCell ⟨g,9,none⟩ a9).setCell ⟨g,10,none⟩ a10).setCell ⟨g,11,none⟩ a11).setCell ⟨g,12,none⟩ a12).setCell ⟨g,13,none⟩ a13).setCell ⟨g,14,none⟩ a14).setCell ⟨g,15,none⟩ a15).setCell ⟨g,16,none⟩ a16).setCell ⟨g,17,none⟩ a17):=by
 have hc:(storeCells ⟨g,0,none⟩ [a0,a1,a2,a3,a4,a5,a6,a7,a8,a9,a10,a11,a12,a13,a14,a15,a16,a17] 0).run Tryz.prog W=.ok () ((((((((((((((((((W.setCell ⟨g,0,none⟩ a0).setCell ⟨g,1,none⟩ a1).setCell ⟨g,2,none⟩ a2).setCell ⟨g,3,none⟩ a3).setCell ⟨g,4,none⟩ a4).setCell ⟨g,5,none⟩ a5).setCell ⟨g,6,none⟩ a6).setCell ⟨g,7,none⟩ a7).setCell ⟨g,8,none⟩ a8).setCell ⟨g,9,none⟩ a9).setCell ⟨g,10,none⟩ a10).setCell ⟨g,11,none⟩ a11).setCell ⟨g,12,none⟩ a12).setCell ⟨g,13,none⟩ a13).setCell ⟨g,14,none⟩ a14).setCell ⟨g,15,none⟩ a15).setCell ⟨g,16,none⟩ a16).setCell ⟨g,17,none⟩ a17) :=
  run_storeCells_cells g 0 [a0,a1,a2,a3,a4,a5,a6,a7,a8,a9,a10,a11,a12,a13,a14,a15,a16,a17] 0 W (fun j hj=>by rw [cell_of_row W g _ _ _ (0,0) h];simp only [List.length_cons,List.length_nil] at hj;simp;omega) (fun j _=>frozen_of_row W g _ _ _ h) h1
 have hz:(sizeOf 33).run Tryz.prog W=.ok 18 W:=by
  have hi:(Tryz.prog.info? 33).map (·.size)=some 18:=by kernel_rfl
  cases hq:Tryz.prog.info? 33 with
  | none=>simp [hq] at hi
  | some i=>simp [hq] at hi;simp [sizeOf,typeInfo,hq,hi]
 unfold STM storeVar
 simp only [Sem.run_bind,hz,Result.andThen_ok]
 exact hc
end
def B18R (W:World) (g:Nat) (v0 v1 v2 v3 v4 v5 v6 v7 v8 v9 v10 v11 v12 v13 v14 v15 v16 v17:Value):Prop:=W.heap[g]?=some (.cells #[v0,v1,v2,v3,v4,v5,v6,v7,v8,v9,v10,v11,v12,v13,v14,v15,v16,v17] 54 (0,0))
section
variable {W W':World} {g:Nat} {v0 v1 v2 v3 v4 v5 v6 v7 v8 v9 v10 v11 v12 v13 v14 v15 v16 v17:Value}
theorem B18R.c0 (h:B18R W g v0 v1 v2 v3 v4 v5 v6 v7 v8 v9 v10 v11 v12 v13 v14 v15 v16 v17):W.cell? ⟨g,0,none⟩=some v0:=by rw [cell_of_row W g 0 _ _ (0,0) h];rfl
theorem B18R.c1 (h:B18R W g v0 v1 v2 v3 v4 v5 v6 v7 v8 v9 v10 v11 v12 v13 v14 v15 v16 v17):W.cell? ⟨g,1,none⟩=some v1:=by rw [cell_of_row W g 1 _ _ (0,0) h];rfl
theorem B18R.c2 (h:B18R W g v0 v1 v2 v3 v4 v5 v6 v7 v8 v9 v10 v11 v12 v13 v14 v15 v16 v17):W.cell? ⟨g,2,none⟩=some v2:=by rw [cell_of_row W g 2 _ _ (0,0) h];rfl
theorem B18R.c3 (h:B18R W g v0 v1 v2 v3 v4 v5 v6 v7 v8 v9 v10 v11 v12 v13 v14 v15 v16 v17):W.cell? ⟨g,3,none⟩=some v3:=by rw [cell_of_row W g 3 _ _ (0,0) h];rfl
theorem B18R.c4 (h:B18R W g v0 v1 v2 v3 v4 v5 v6 v7 v8 v9 v10 v11 v12 v13 v14 v15 v16 v17):W.cell? ⟨g,4,none⟩=some v4:=by rw [cell_of_row W g 4 _ _ (0,0) h];rfl
theorem B18R.c5 (h:B18R W g v0 v1 v2 v3 v4 v5 v6 v7 v8 v9 v10 v11 v12 v13 v14 v15 v16 v17):W.cell? ⟨g,5,none⟩=some v5:=by rw [cell_of_row W g 5 _ _ (0,0) h];rfl
theorem B18R.c6 (h:B18R W g v0 v1 v2 v3 v4 v5 v6 v7 v8 v9 v10 v11 v12 v13 v14 v15 v16 v17):W.cell? ⟨g,6,none⟩=some v6:=by rw [cell_of_row W g 6 _ _ (0,0) h];rfl
theorem B18R.c7 (h:B18R W g v0 v1 v2 v3 v4 v5 v6 v7 v8 v9 v10 v11 v12 v13 v14 v15 v16 v17):W.cell? ⟨g,7,none⟩=some v7:=by rw [cell_of_row W g 7 _ _ (0,0) h];rfl
theorem B18R.c8 (h:B18R W g v0 v1 v2 v3 v4 v5 v6 v7 v8 v9 v10 v11 v12 v13 v14 v15 v16 v17):W.cell? ⟨g,8,none⟩=some v8:=by rw [cell_of_row W g 8 _ _ (0,0) h];rfl
theorem B18R.c9 (h:B18R W g v0 v1 v2 v3 v4 v5 v6 v7 v8 v9 v10 v11 v12 v13 v14 v15 v16 v17):W.cell? ⟨g,9,none⟩=some v9:=by rw [cell_of_row W g 9 _ _ (0,0) h];rfl
theorem B18R.c10 (h:B18R W g v0 v1 v2 v3 v4 v5 v6 v7 v8 v9 v10 v11 v12 v13 v14 v15 v16 v17):W.cell? ⟨g,10,none⟩=some v10:=by rw [cell_of_row W g 10 _ _ (0,0) h];rfl
theorem B18R.c11 (h:B18R W g v0 v1 v2 v3 v4 v5 v6 v7 v8 v9 v10 v11 v12 v13 v14 v15 v16 v17):W.cell? ⟨g,11,none⟩=some v11:=by rw [cell_of_row W g 11 _ _ (0,0) h];rfl
theorem B18R.c12 (h:B18R W g v0 v1 v2 v3 v4 v5 v6 v7 v8 v9 v10 v11 v12 v13 v14 v15 v16 v17):W.cell? ⟨g,12,none⟩=some v12:=by rw [cell_of_row W g 12 _ _ (0,0) h];rfl
theorem B18R.c13 (h:B18R W g v0 v1 v2 v3 v4 v5 v6 v7 v8 v9 v10 v11 v12 v13 v14 v15 v16 v17):W.cell? ⟨g,13,none⟩=some v13:=by rw [cell_of_row W g 13 _ _ (0,0) h];rfl
theorem B18R.c14 (h:B18R W g v0 v1 v2 v3 v4 v5 v6 v7 v8 v9 v10 v11 v12 v13 v14 v15 v16 v17):W.cell? ⟨g,14,none⟩=some v14:=by rw [cell_of_row W g 14 _ _ (0,0) h];rfl
theorem B18R.c15 (h:B18R W g v0 v1 v2 v3 v4 v5 v6 v7 v8 v9 v10 v11 v12 v13 v14 v15 v16 v17):W.cell? ⟨g,15,none⟩=some v15:=by rw [cell_of_row W g 15 _ _ (0,0) h];rfl
theorem B18R.c16 (h:B18R W g v0 v1 v2 v3 v4 v5 v6 v7 v8 v9 v10 v11 v12 v13 v14 v15 v16 v17):W.cell? ⟨g,16,none⟩=some v16:=by rw [cell_of_row W g 16 _ _ (0,0) h];rfl
theorem B18R.c17 (h:B18R W g v0 v1 v2 v3 v4 v5 v6 v7 v8 v9 v10 v11 v12 v13 v14 v15 v16 v17):W.cell? ⟨g,17,none⟩=some v17:=by rw [cell_of_row W g 17 _ _ (0,0) h];rfl
theorem B18R.all (h:B18R W g v0 v1 v2 v3 v4 v5 v6 v7 v8 v9 v10 v11 v12 v13 v14 v15 v16 v17):W.cell? ⟨g,0,none⟩=some v0∧W.cell? ⟨g,1,none⟩=some v1∧W.cell? ⟨g,2,none⟩=some v2∧W.cell? ⟨g,3,none⟩=some v3∧W.cell? ⟨g,4,none⟩=some v4∧W.cell? ⟨g,5,none⟩=some v5∧W.cell? ⟨g,6,none⟩=some v6∧W.cell? ⟨g,7,none⟩=some v7∧W.cell? ⟨g,8,none⟩=some v8∧W.cell? ⟨g,9,none⟩=some v9∧W.cell? ⟨g,10,none⟩=some v10∧W.cell? ⟨g,11,none⟩=some v11∧W.cell? ⟨g,12,none⟩=some v12∧W.cell? ⟨g,13,none⟩=some v13∧W.cell? ⟨g,14,none⟩=some v14∧W.cell? ⟨g,15,none⟩=some v15∧W.cell? ⟨g,16,none⟩=some v16∧W.cell? ⟨g,17,none⟩=some v17:=⟨h.c0,h.c1,h.c2,h.c3,h.c4,h.c5,h.c6,h.c7,h.c8,h.c9,h.c10,h.c11,h.c12,h.c13,h.c14,h.c15,h.c16,h.c17⟩
theorem B18R.f0 (h:B18R W g v0 v1 v2 v3 v4 v5 v6 v7 v8 v9 v10 v11 v12 v13 v14 v15 v16 v17):W.frozen? ⟨g,0,none⟩=false:=frozen_of_row W g 0 _ _ h
theorem B18R.f1 (h:B18R W g v0 v1 v2 v3 v4 v5 v6 v7 v8 v9 v10 v11 v12 v13 v14 v15 v16 v17):W.frozen? ⟨g,1,none⟩=false:=frozen_of_row W g 1 _ _ h
theorem B18R.f2 (h:B18R W g v0 v1 v2 v3 v4 v5 v6 v7 v8 v9 v10 v11 v12 v13 v14 v15 v16 v17):W.frozen? ⟨g,2,none⟩=false:=frozen_of_row W g 2 _ _ h
theorem B18R.f3 (h:B18R W g v0 v1 v2 v3 v4 v5 v6 v7 v8 v9 v10 v11 v12 v13 v14 v15 v16 v17):W.frozen? ⟨g,3,none⟩=false:=frozen_of_row W g 3 _ _ h
theorem B18R.f4 (h:B18R W g v0 v1 v2 v3 v4 v5 v6 v7 v8 v9 v10 v11 v12 v13 v14 v15 v16 v17):W.frozen? ⟨g,4,none⟩=false:=frozen_of_row W g 4 _ _ h
theorem B18R.f5 (h:B18R W g v0 v1 v2 v3 v4 v5 v6 v7 v8 v9 v10 v11 v12 v13 v14 v15 v16 v17):W.frozen? ⟨g,5,none⟩=false:=frozen_of_row W g 5 _ _ h
theorem B18R.f6 (h:B18R W g v0 v1 v2 v3 v4 v5 v6 v7 v8 v9 v10 v11 v12 v13 v14 v15 v16 v17):W.frozen? ⟨g,6,none⟩=false:=frozen_of_row W g 6 _ _ h
theorem B18R.f7 (h:B18R W g v0 v1 v2 v3 v4 v5 v6 v7 v8 v9 v10 v11 v12 v13 v14 v15 v16 v17):W.frozen? ⟨g,7,none⟩=false:=frozen_of_row W g 7 _ _ h
theorem B18R.f8 (h:B18R W g v0 v1 v2 v3 v4 v5 v6 v7 v8 v9 v10 v11 v12 v13 v14 v15 v16 v17):W.frozen? ⟨g,8,none⟩=false:=frozen_of_row W g 8 _ _ h
theorem B18R.f9 (h:B18R W g v0 v1 v2 v3 v4 v5 v6 v7 v8 v9 v10 v11 v12 v13 v14 v15 v16 v17):W.frozen? ⟨g,9,none⟩=false:=frozen_of_row W g 9 _ _ h
theorem B18R.f10 (h:B18R W g v0 v1 v2 v3 v4 v5 v6 v7 v8 v9 v10 v11 v12 v13 v14 v15 v16 v17):W.frozen? ⟨g,10,none⟩=false:=frozen_of_row W g 10 _ _ h
theorem B18R.f11 (h:B18R W g v0 v1 v2 v3 v4 v5 v6 v7 v8 v9 v10 v11 v12 v13 v14 v15 v16 v17):W.frozen? ⟨g,11,none⟩=false:=frozen_of_row W g 11 _ _ h
theorem B18R.f12 (h:B18R W g v0 v1 v2 v3 v4 v5 v6 v7 v8 v9 v10 v11 v12 v13 v14 v15 v16 v17):W.frozen? ⟨g,12,none⟩=false:=frozen_of_row W g 12 _ _ h
theorem B18R.f13 (h:B18R W g v0 v1 v2 v3 v4 v5 v6 v7 v8 v9 v10 v11 v12 v13 v14 v15 v16 v17):W.frozen? ⟨g,13,none⟩=false:=frozen_of_row W g 13 _ _ h
theorem B18R.f14 (h:B18R W g v0 v1 v2 v3 v4 v5 v6 v7 v8 v9 v10 v11 v12 v13 v14 v15 v16 v17):W.frozen? ⟨g,14,none⟩=false:=frozen_of_row W g 14 _ _ h
theorem B18R.f15 (h:B18R W g v0 v1 v2 v3 v4 v5 v6 v7 v8 v9 v10 v11 v12 v13 v14 v15 v16 v17):W.frozen? ⟨g,15,none⟩=false:=frozen_of_row W g 15 _ _ h
theorem B18R.lt (h:B18R W g v0 v1 v2 v3 v4 v5 v6 v7 v8 v9 v10 v11 v12 v13 v14 v15 v16 v17):g < W.heap.size:=World.block_lt_of_cell? W _ h.c0
theorem B18R.below (h:B18R W g v0 v1 v2 v3 v4 v5 v6 v7 v8 v9 v10 v11 v12 v13 v14 v15 v16 v17) (hb:Below W.heap.size W W'):B18R W' g v0 v1 v2 v3 v4 v5 v6 v7 v8 v9 v10 v11 v12 v13 v14 v15 v16 v17:=(hb.block g h.lt).trans h
theorem B18R.alloc (h:B18R W g v0 v1 v2 v3 v4 v5 v6 v7 v8 v9 v10 v11 v12 v13 v14 v15 v16 v17) (o:Obj):B18R (W.alloc o) g v0 v1 v2 v3 v4 v5 v6 v7 v8 v9 v10 v11 v12 v13 v14 v15 v16 v17:=(Below.heap_alloc W o g h.lt).trans h
theorem B18R.new' (W:World) (v0 v1 v2 v3 v4 v5 v6 v7 v8 v9 v10 v11 v12 v13 v14 v15 v16 v17:Value) (g:Nat) (hg:g=W.heap.size):B18R (W.alloc (.cells #[v0,v1,v2,v3,v4,v5,v6,v7,v8,v9,v10,v11,v12,v13,v14,v15,v16,v17] 54)) g v0 v1 v2 v3 v4 v5 v6 v7 v8 v9 v10 v11 v12 v13 v14 v15 v16 v17:=by subst hg;exact heap_alloc_new W _
theorem B18R.set18 (h:B18R W g v0 v1 v2 v3 v4 v5 v6 v7 v8 v9 v10 v11 v12 v13 v14 v15 v16 v17) (a0 a1 a2 a3 a4 a5 a6 a7 a8 a9 a10 a11 a12 a13 a14 a15 a16 a17:Value):B18R ((((((((((((((((((W.setCell ⟨g,0,none⟩ a0).setCell ⟨g,1,none⟩ a1).setCell ⟨g,2,none⟩ a2).setCell ⟨g,3,none⟩ a3).setCell ⟨g,4,none⟩ a4).setCell ⟨g,5,none⟩ a5).setCell ⟨g,6,none⟩ a6).setCell ⟨g,7,none⟩ a7).setCell ⟨g,8,none⟩ a8).setCell ⟨g,9,none⟩ a9).setCell ⟨g,10,none⟩ a10).setCell ⟨g,11,none⟩ a11).setCell ⟨g,12,none⟩ a12).setCell ⟨g,13,none⟩ a13).setCell ⟨g,14,none⟩ a14).setCell ⟨g,15,none⟩ a15).setCell ⟨g,16,none⟩ a16).setCell ⟨g,17,none⟩ a17) g a0 a1 a2 a3 a4 a5 a6 a7 a8 a9 a10 a11 a12 a13 a14 a15 a16 a17:=by
 unfold B18R at h ⊢
 have h0:=heap_setCell_same _ g 0 _ _ a0 h
 simp only [List.setIfInBounds_toArray,List.set_cons_zero] at h0
 have h1:=heap_setCell_same _ g 1 _ _ a1 h0
 simp only [List.setIfInBounds_toArray,List.set_cons_zero,List.set_cons_succ] at h1
 have h2:=heap_setCell_same _ g 2 _ _ a2 h1
 simp only [List.setIfInBounds_toArray,List.set_cons_zero,List.set_cons_succ] at h2
 have h3:=heap_setCell_same _ g 3 _ _ a3 h2
 simp only [List.setIfInBounds_toArray,List.set_cons_zero,List.set_cons_succ] at h3
 have h4:=heap_setCell_same _ g 4 _ _ a4 h3
 simp only [List.setIfInBounds_toArray,List.set_cons_zero,List.set_cons_succ] at h4
 have h5:=heap_setCell_same _ g 5 _ _ a5 h4
 simp only [List.setIfInBounds_toArray,List.set_cons_zero,List.set_cons_succ] at h5
 have h6:=heap_setCell_same _ g 6 _ _ a6 h5
 simp only [List.setIfInBounds_toArray,List.set_cons_zero,List.set_cons_succ] at h6
 have h7:=heap_setCell_same _ g 7 _ _ a7 h6
 simp only [List.setIfInBounds_toArray,List.set_cons_zero,List.set_cons_succ] at h7
 have h8:=heap_setCell_same _ g 8 _ _ a8 h7
 simp only [List.setIfInBounds_toArray,List.set_cons_zero,List.set_cons_succ] at h8
 have h9:=heap_setCell_same _ g 9 _ _ a9 h8
 simp only [List.setIfInBounds_toArray,List.set_cons_zero,List.set_cons_succ] at h9
 have h10:=heap_setCell_same _ g 10 _ _ a10 h9
 simp only [List.setIfInBounds_toArray,List.set_cons_zero,List.set_cons_succ] at h10
 have h11:=heap_setCell_same _ g 11 _ _ a11 h10
 simp only [List.setIfInBounds_toArray,List.set_cons_zero,List.set_cons_succ] at h11
 have h12:=heap_setCell_same _ g 12 _ _ a12 h11
 simp only [List.setIfInBounds_toArray,List.set_cons_zero,List.set_cons_succ] at h12
 have h13:=heap_setCell_same _ g 13 _ _ a13 h12
 simp only [List.setIfInBounds_toArray,List.set_cons_zero,List.set_cons_succ] at h13
 have h14:=heap_setCell_same _ g 14 _ _ a14 h13
 simp only [List.setIfInBounds_toArray,List.set_cons_zero,List.set_cons_succ] at h14
 have h15:=heap_setCell_same _ g 15 _ _ a15 h14
 simp only [List.setIfInBounds_toArray,List.set_cons_zero,List.set_cons_succ] at h15
 have h16:=heap_setCell_same _ g 16 _ _ a16 h15
 simp only [List.setIfInBounds_toArray,List.set_cons_zero,List.set_cons_succ] at h16
 have h17:=heap_setCell_same _ g 17 _ _ a17 h16
 simp only [List.setIfInBounds_toArray,List.set_cons_zero,List.set_cons_succ] at h17
 exact h17
theorem B18R.restm {k:Nat} (h:B18R W g v0 v1 v2 v3 v4 v5 v6 v7 v8 v9 v10 v11 v12 v13 v14 v15 v16 v17) (hne:g ≠ k) (ho:Only k W W'):B18R W' g v0 v1 v2 v3 v4 v5 v6 v7 v8 v9 v10 v11 v12 v13 v14 v15 v16 v17:=(ho.block g h.lt hne).trans h
def LVN (a:Addr):Sem Value:=loadVar 54 a
theorem open_LVN (a:Addr):loadVar 54 a=LVN a:=rfl
def STN (a:Addr) (v:Value):Sem Unit:=storeVar 54 a v
theorem open_STN (a:Addr) (v:Value):storeVar 54 a v=STN a v:=rfl
theorem B18R.ld (h:B18R W g v0 v1 v2 v3 v4 v5 v6 v7 v8 v9 v10 v11 v12 v13 v14 v15 v16 v17):(LVN ⟨g,0,none⟩).run Tryz.prog W=.ok (.agg #[v0,v1,v2,v3,v4,v5,v6,v7,v8,v9,v10,v11,v12,v13,v14,v15,v16,v17]) W :=
 run_loadVar_row W g _ _ _ (0,0) _ h Tryz.underlying54 rfl (by kernel_rfl)
theorem B18R.st (h:B18R W g v0 v1 v2 v3 v4 v5 v6 v7 v8 v9 v10 v11 v12 v13 v14 v15 v16 v17) (a0 a1 a2 a3 a4 a5 a6 a7 a8 a9 a10 a11 a12 a13 a14 a15 a16 a17:Value) (h1:∀ v ∈ [a0,a1,a2,a3,a4,a5,a6,a7,a8,a9,a10,a11,a12,a13,a14,a15,a16,a17],v.oneCell'=true):(STN ⟨g,0,none⟩ (.agg #[a0,a1,a2,a3,a4,a5,a6,a7,a8,a9,a10,a11,a12,a13,a14,a15,a16,a17])).run Tryz.prog W=.ok () ((((((((((((((((((W.setCell ⟨g,0,none⟩ a0).setCell ⟨g,1,none⟩ a1).setCell ⟨g,2,none⟩ a2).setCell ⟨g,3,none⟩ a3).setCell ⟨g,4,none⟩ a4).setCell ⟨g,5,none⟩ a5).setCell ⟨g,6,none⟩ a6).setCell ⟨g,7,none⟩ a7).setCell ⟨g,8,none⟩ a8).setCell ⟨g,9,none⟩ a9).setCell ⟨g,10,none⟩ a10).setCell ⟨g,11,none⟩ a11).setCell ⟨g,12,none⟩ a12).setCell ⟨g,13,none⟩ a13).setCell ⟨g,14,none⟩ a14).setCell ⟨g,15,none⟩ a15).setCell ⟨g,16,none⟩ a16).setCell ⟨g,17,none⟩ a17):=by
 have hc:(storeCells ⟨g,0,none⟩ [a0,a1,a2,a3,a4,a5,a6,a7,a8,a9,a10,a11,a12,a13,a14,a15,a16,a17] 0).run Tryz.prog W=.ok () ((((((((((((((((((W.setCell ⟨g,0,none⟩ a0).setCell ⟨g,1,none⟩ a1).setCell ⟨g,2,none⟩ a2).setCell ⟨g,3,none⟩ a3).setCell ⟨g,4,none⟩ a4).setCell ⟨g,5,none⟩ a5).setCell ⟨g,6,none⟩ a6).setCell ⟨g,7,none⟩ a7).setCell ⟨g,8,none⟩ a8).setCell ⟨g,9,none⟩ a9).setCell ⟨g,10,none⟩ a10).setCell ⟨g,11,none⟩ a11).setCell ⟨g,12,none⟩ a12).setCell ⟨g,13,none⟩ a13).setCell ⟨g,14,none⟩ a14).setCell ⟨g,15,none⟩ a15).setCell ⟨g,16,none⟩ a16).setCell ⟨g,17,none⟩ a17) :=
  run_storeCells_cells g 0 [a0,a1,a2,a3,a4,a5,a6,a7,a8,a9,a10,a11,a12,a13,a14,a15,a16,a17] 0 W (fun j hj=>by rw [cell_of_row W g _ _ _ (0,0) h];simp only [List.length_cons,List.length_nil] at hj;simp;omega) (fun j _=>frozen_of_row W g _ _ _ h) h1
 have hz:(sizeOf 54).run Tryz.prog W=.ok 18 W:=by
  have hi:(Tryz.prog.info? 54).map (·.size)=some 18:=by kernel_rfl
  cases hq:Tryz.prog.info? 54 with
  | none=>simp [hq] at hi
  | some i=>simp [hq] at hi;simp [sizeOf,typeInfo,hq,hi]
 unfold STN storeVar
 simp only [Sem.run_bind,hz,Result.andThen_ok]
 exact hc
end
theorem below_set18 {B g:Nat} {w W:World} (h:Below B w W) (hg:B≤g) (a0 a1 a2 a3 a4 a5 a6 a7 a8 a9 a10 a11 a12 a13 a14 a15 a16 a17:Value):Below B w ((((((((((((((((((W.setCell ⟨g,0,none⟩ a0).setCell ⟨g,1,none⟩ a1).setCell ⟨g,2,none⟩ a2).setCell ⟨g,3,none⟩ a3).setCell ⟨g,4,none⟩ a4).setCell ⟨g,5,none⟩ a5).setCell ⟨g,6,none⟩ a6).setCell ⟨g,7,none⟩ a7).setCell ⟨g,8,none⟩ a8).setCell ⟨g,9,none⟩ a9).setCell ⟨g,10,none⟩ a10).setCell ⟨g,11,none⟩ a11).setCell ⟨g,12,none⟩ a12).setCell ⟨g,13,none⟩ a13).setCell ⟨g,14,none⟩ a14).setCell ⟨g,15,none⟩ a15).setCell ⟨g,16,none⟩ a16).setCell ⟨g,17,none⟩ a17):=(((((((((((((((((h.setCell hg _).setCell hg _).setCell hg _).setCell hg _).setCell hg _).setCell hg _).setCell hg _).setCell hg _).setCell hg _).setCell hg _).setCell hg _).setCell hg _).setCell hg _).setCell hg _).setCell hg _).setCell hg _).setCell hg _).setCell hg _
theorem only_set18 (W:World) (g:Nat) (a0 a1 a2 a3 a4 a5 a6 a7 a8 a9 a10 a11 a12 a13 a14 a15 a16 a17:Value):Only g W ((((((((((((((((((W.setCell ⟨g,0,none⟩ a0).setCell ⟨g,1,none⟩ a1).setCell ⟨g,2,none⟩ a2).setCell ⟨g,3,none⟩ a3).setCell ⟨g,4,none⟩ a4).setCell ⟨g,5,none⟩ a5).setCell ⟨g,6,none⟩ a6).setCell ⟨g,7,none⟩ a7).setCell ⟨g,8,none⟩ a8).setCell ⟨g,9,none⟩ a9).setCell ⟨g,10,none⟩ a10).setCell ⟨g,11,none⟩ a11).setCell ⟨g,12,none⟩ a12).setCell ⟨g,13,none⟩ a13).setCell ⟨g,14,none⟩ a14).setCell ⟨g,15,none⟩ a15).setCell ⟨g,16,none⟩ a16).setCell ⟨g,17,none⟩ a17):=((((((((((((((((((Only.refl g W).setCell 0 _).setCell 1 _).setCell 2 _).setCell 3 _).setCell 4 _).setCell 5 _).setCell 6 _).setCell 7 _).setCell 8 _).setCell 9 _).setCell 10 _).setCell 11 _).setCell 12 _).setCell 13 _).setCell 14 _).setCell 15 _).setCell 16 _).setCell 17 _
theorem Rd.offB18 {K:IntKind} {W:World} {g:Nat} {s0:Bool} {s1:Bool} {s2:Bool} {s3:Bool} {s4:Bool} {s5:Bool} {A1:Option Addr} {n1 c1:Nat} {A2:Option Addr} {n2 c2:Nat} {A4:Option Addr} {n4 c4:Nat} {A5:Option Addr} {n5 c5:Nat} {A7:Option Addr} {n7 c7:Nat} {A8:Option Addr} {n8 c8:Nat} {A10:Option Addr} {n10 c10:Nat} {A11:Option Addr} {n11 c11:Nat} {A13:Option Addr} {n13 c13:Nat} {A14:Option Addr} {n14 c14:Nat} {A16:Option Addr} {n16 c16:Nat} {A17:Option Addr} {n17 c17:Nat} {A:Option Addr} {n:Nat} {l:List Nat} (hr:Rd K W A n l) (h:B18 W g (.bool s0) (.slice A1 n1 c1) (.slice A2 n2 c2) (.bool s1) (.slice A4 n4 c4) (.slice A5 n5 c5) (.bool s2) (.slice A7 n7 c7) (.slice A8 n8 c8) (.bool s3) (.slice A10 n10 c10) (.slice A11 n11 c11) (.bool s4) (.slice A13 n13 c13) (.slice A14 n14 c14) (.bool s5) (.slice A16 n16 c16) (.slice A17 n17 c17)):Off A n g:=by
 intro hn ad e hg
 obtain ⟨b,o,eA,hc⟩:=hr.at_ hn
 obtain ⟨x,_,hx⟩:=hc 0 hn
 rw [eA] at e
 cases e
 have hg2:b=g:=hg
 subst hg2
 rw [cell_of_row W b (o+0) _ _ (0,0) h] at hx
 match o,hx with
 | 0,hx=>cases hx
 | 1,hx=>cases hx
 | 2,hx=>cases hx
 | 3,hx=>cases hx
 | 4,hx=>cases hx
 | 5,hx=>cases hx
 | 6,hx=>cases hx
 | 7,hx=>cases hx
 | 8,hx=>cases hx
 | 9,hx=>cases hx
 | 10,hx=>cases hx
 | 11,hx=>cases hx
 | 12,hx=>cases hx
 | 13,hx=>cases hx
 | 14,hx=>cases hx
 | 15,hx=>cases hx
 | 16,hx=>cases hx
 | 17,hx=>cases hx
 | o+18,hx=>cases hx
theorem Rd.offB18R {K:IntKind} {W:World} {g:Nat} {s0:Bool} {s1:Bool} {s2:Bool} {s3:Bool} {s4:Bool} {s5:Bool} {A1:Option Addr} {n1 c1:Nat} {A2:Option Addr} {n2 c2:Nat} {A4:Option Addr} {n4 c4:Nat} {A5:Option Addr} {n5 c5:Nat} {A7:Option Addr} {n7 c7:Nat} {A8:Option Addr} {n8 c8:Nat} {A10:Option Addr} {n10 c10:Nat} {A11:Option Addr} {n11 c11:Nat} {A13:Option Addr} {n13 c13:Nat} {A14:Option Addr} {n14 c14:Nat} {A16:Option Addr} {n16 c16:Nat} {A17:Option Addr} {n17 c17:Nat} {A:Option Addr} {n:Nat} {l:List Nat} (hr:Rd K W A n l) (h:B18R W g (.bool s0) (.slice A1 n1 c1) (.slice A2 n2 c2) (.bool s1) (.slice A4 n4 c4) (.slice A5 n5 c5) (.bool s2) (.slice A7 n7 c7) (.slice A8 n8 c8) (.bool s3) (.slice A10 n10 c10) (.slice A11 n11 c11) (.bool s4) (.slice A13 n13 c13) (.slice A14 n14 c14) (.bool s5) (.slice A16 n16 c16) (.slice A17 n17 c17)):Off A n g:=by
 intro hn ad e hg
 obtain ⟨b,o,eA,hc⟩:=hr.at_ hn
 obtain ⟨x,_,hx⟩:=hc 0 hn
 rw [eA] at e
 cases e
 have hg2:b=g:=hg
 subst hg2
 rw [cell_of_row W b (o+0) _ _ (0,0) h] at hx
 match o,hx with
 | 0,hx=>cases hx
 | 1,hx=>cases hx
 | 2,hx=>cases hx
 | 3,hx=>cases hx
 | 4,hx=>cases hx
 | 5,hx=>cases hx
 | 6,hx=>cases hx
 | 7,hx=>cases hx
 | 8,hx=>cases hx
 | 9,hx=>cases hx
 | 10,hx=>cases hx
 | 11,hx=>cases hx
 | 12,hx=>cases hx
 | 13,hx=>cases hx
 | 14,hx=>cases hx
 | 15,hx=>cases hx
 | 16,hx=>cases hx
 | 17,hx=>cases hx
 | o+18,hx=>cases hx
def MR (w:World) (m:MV) (v:AM) (k l:Nat):Prop:=PR w m.a.s m.a.A m.a.n m.a.c m.a.B m.a.m m.a.d m.b.s m.b.A m.b.n m.b.c m.b.B m.b.m m.b.d v.a v.b k∧PR w m.c.s m.c.A m.c.n m.c.c m.c.B m.c.m m.c.d m.d.s m.d.A m.d.n m.d.c m.d.B m.d.m m.d.d v.c v.d k∧PR w m.e.s m.e.A m.e.n m.e.c m.e.B m.e.m m.e.d m.f.s m.f.A m.f.n m.f.c m.f.B m.f.m m.f.d v.e v.f l
def MG (w:World) (m:MV) (v:AM) (k l:Nat):Prop:=PG w m.a.s m.a.A m.a.n m.a.c m.a.B m.a.m m.a.d m.b.s m.b.A m.b.n m.b.c m.b.B m.b.m m.b.d v.a v.b k∧PG w m.c.s m.c.A m.c.n m.c.c m.c.B m.c.m m.c.d m.d.s m.d.A m.d.n m.d.c m.d.B m.d.m m.d.d v.c v.d k∧PG w m.e.s m.e.A m.e.n m.e.c m.e.B m.e.m m.e.d m.f.s m.f.A m.f.n m.f.c m.f.B m.f.m m.f.d v.e v.f l
def RM (w:World) (m:MV) (v:AM) (k l:Nat):Prop:=RP w m.a.s m.a.A m.a.n m.a.c m.a.B m.a.m m.a.d m.b.s m.b.A m.b.n m.b.c m.b.B m.b.m m.b.d v.a v.b k∧RP w m.c.s m.c.A m.c.n m.c.c m.c.B m.c.m m.c.d m.d.s m.d.A m.d.n m.d.c m.d.B m.d.m m.d.d v.c v.d k∧RP w m.e.s m.e.A m.e.n m.e.c m.e.B m.e.m m.e.d m.f.s m.f.A m.f.n m.f.c m.f.B m.f.m m.f.d v.e v.f l
def GivesMt (w:World) (v:AM) (k l:Nat) (en:Ending) (w':World):Prop:=∃ m:MV,en=.returned (.agg #[.bool m.a.s,.slice m.a.A m.a.n m.a.c,.slice m.a.B m.a.m m.a.d,.bool m.b.s,.slice m.b.A m.b.n m.b.c,.slice m.b.B m.b.m m.b.d,.bool m.c.s,.slice m.c.A m.c.n m.c.c,.slice m.c.B m.c.m m.c.d,.bool m.d.s,.slice m.d.A m.d.n m.d.c,.slice m.d.B m.d.m m.d.d,.bool m.e.s,.slice m.e.A m.e.n m.e.c,.slice m.e.B m.e.m m.e.d,.bool m.f.s,.slice m.f.A m.f.n m.f.c,.slice m.f.B m.f.m m.f.d])∧MG w' m v k l∧Below w.heap.size w w'
def GivesRM (w:World) (v:AM) (k l:Nat) (en:Ending) (w':World):Prop:=∃ m:MV,en=.returned (.agg #[.bool m.a.s,.slice m.a.A m.a.n m.a.c,.slice m.a.B m.a.m m.a.d,.bool m.b.s,.slice m.b.A m.b.n m.b.c,.slice m.b.B m.b.m m.b.d,.bool m.c.s,.slice m.c.A m.c.n m.c.c,.slice m.c.B m.c.m m.c.d,.bool m.d.s,.slice m.d.A m.d.n m.d.c,.slice m.d.B m.d.m m.d.d,.bool m.e.s,.slice m.e.A m.e.n m.e.c,.slice m.e.B m.e.m m.e.d,.bool m.f.s,.slice m.f.A m.f.n m.f.c,.slice m.f.B m.f.m m.f.d])∧RM w' m v k l∧Below w.heap.size w w'
section
variable {w w':World} {m:MV} {v:AM} {k l k1 l1:Nat}
theorem MR.below (h:MR w m v k l) (hb:Below w.heap.size w w'):MR w' m v k l:=⟨h.1.below hb,h.2.1.below hb,h.2.2.below hb⟩
theorem MR.ab (h:MR w m v k l):PR w m.a.s m.a.A m.a.n m.a.c m.a.B m.a.m m.a.d m.b.s m.b.A m.b.n m.b.c m.b.B m.b.m m.b.d v.a v.b k:=h.1
theorem MR.cd (h:MR w m v k l):PR w m.c.s m.c.A m.c.n m.c.c m.c.B m.c.m m.c.d m.d.s m.d.A m.d.n m.d.c m.d.B m.d.m m.d.d v.c v.d k:=h.2.1
theorem MR.ef (h:MR w m v k l):PR w m.e.s m.e.A m.e.n m.e.c m.e.B m.e.m m.e.d m.f.s m.f.A m.f.n m.f.c m.f.B m.f.m m.f.d v.e v.f l:=h.2.2
theorem MG.below (h:MG w m v k l) (hb:Below w.heap.size w w'):MG w' m v k l:=⟨h.1.below hb,h.2.1.below hb,h.2.2.below hb⟩
theorem MG.ab (h:MG w m v k l):PG w m.a.s m.a.A m.a.n m.a.c m.a.B m.a.m m.a.d m.b.s m.b.A m.b.n m.b.c m.b.B m.b.m m.b.d v.a v.b k:=h.1
theorem MG.cd (h:MG w m v k l):PG w m.c.s m.c.A m.c.n m.c.c m.c.B m.c.m m.c.d m.d.s m.d.A m.d.n m.d.c m.d.B m.d.m m.d.d v.c v.d k:=h.2.1
theorem MG.ef (h:MG w m v k l):PG w m.e.s m.e.A m.e.n m.e.c m.e.B m.e.m m.e.d m.f.s m.f.A m.f.n m.f.c m.f.B m.f.m m.f.d v.e v.f l:=h.2.2
theorem RM.below (h:RM w m v k l) (hb:Below w.heap.size w w'):RM w' m v k l:=⟨h.1.below hb,h.2.1.below hb,h.2.2.below hb⟩
theorem RM.ab (h:RM w m v k l):RP w m.a.s m.a.A m.a.n m.a.c m.a.B m.a.m m.a.d m.b.s m.b.A m.b.n m.b.c m.b.B m.b.m m.b.d v.a v.b k:=h.1
theorem RM.cd (h:RM w m v k l):RP w m.c.s m.c.A m.c.n m.c.c m.c.B m.c.m m.c.d m.d.s m.d.A m.d.n m.d.c m.d.B m.d.m m.d.d v.c v.d k:=h.2.1
theorem RM.ef (h:RM w m v k l):RP w m.e.s m.e.A m.e.n m.e.c m.e.B m.e.m m.e.d m.f.s m.f.A m.f.n m.f.c m.f.B m.f.m m.f.d v.e v.f l:=h.2.2
theorem MG.mr (h:MG w m v k l):MR w m v k l:=⟨h.1.pr,h.2.1.pr,h.2.2.pr⟩
theorem MG.more (h:MG w m v k l) (hk:k≤k1) (hl:l≤l1):MG w m v k1 l1:=⟨h.1.more hk,h.2.1.more hk,h.2.2.more hl⟩
theorem MR.more (h:MR w m v k l) (hk:k≤k1) (hl:l≤l1):MR w m v k1 l1:=⟨h.1.more hk,h.2.1.more hk,h.2.2.more hl⟩
theorem QG.set18 {u:Rat} {g:Nat} {s:Bool} {A B:Option Addr} {n c m d:Nat} {s0:Bool} {s1:Bool} {s2:Bool} {s3:Bool} {s4:Bool} {s5:Bool} {A1:Option Addr} {n1 c1:Nat} {A2:Option Addr} {n2 c2:Nat} {A4:Option Addr} {n4 c4:Nat} {A5:Option Addr} {n5 c5:Nat} {A7:Option Addr} {n7 c7:Nat} {A8:Option Addr} {n8 c8:Nat} {A10:Option Addr} {n10 c10:Nat} {A11:Option Addr} {n11 c11:Nat} {A13:Option Addr} {n13 c13:Nat} {A14:Option Addr} {n14 c14:Nat} {A16:Option Addr} {n16 c16:Nat} {A17:Option Addr} {n17 c17:Nat} (h:QG w s A n c B m d u k) (Z:B18 w g (.bool s0) (.slice A1 n1 c1) (.slice A2 n2 c2) (.bool s1) (.slice A4 n4 c4) (.slice A5 n5 c5) (.bool s2) (.slice A7 n7 c7) (.slice A8 n8 c8) (.bool s3) (.slice A10 n10 c10) (.slice A11 n11 c11) (.bool s4) (.slice A13 n13 c13) (.slice A14 n14 c14) (.bool s5) (.slice A16 n16 c16) (.slice A17 n17 c17)) (a0 a1 a2 a3 a4 a5 a6 a7 a8 a9 a10 a11 a12 a13 a14 a15 a16 a17:Value):QG ((((((((((((((((((w.setCell ⟨g,0,none⟩ a0).setCell ⟨g,1,none⟩ a1).setCell ⟨g,2,none⟩ a2).setCell ⟨g,3,none⟩ a3).setCell ⟨g,4,none⟩ a4).setCell ⟨g,5,none⟩ a5).setCell ⟨g,6,none⟩ a6).setCell ⟨g,7,none⟩ a7).setCell ⟨g,8,none⟩ a8).setCell ⟨g,9,none⟩ a9).setCell ⟨g,10,none⟩ a10).setCell ⟨g,11,none⟩ a11).setCell ⟨g,12,none⟩ a12).setCell ⟨g,13,none⟩ a13).setCell ⟨g,14,none⟩ a14).setCell ⟨g,15,none⟩ a15).setCell ⟨g,16,none⟩ a16).setCell ⟨g,17,none⟩ a17) s A n c B m d u k:=by
 have ho:=only_set18 w g a0 a1 a2 a3 a4 a5 a6 a7 a8 a9 a10 a11 a12 a13 a14 a15 a16 a17
 exact ⟨⟨h.1.1,h.1.2.1.only (h.1.2.1.offB18 Z) ho,h.1.2.2⟩,⟨h.2.1.only (h.2.1.offB18 Z) ho,h.2.2⟩⟩
theorem MG.set18 {g:Nat} {s0:Bool} {s1:Bool} {s2:Bool} {s3:Bool} {s4:Bool} {s5:Bool} {A1:Option Addr} {n1 c1:Nat} {A2:Option Addr} {n2 c2:Nat} {A4:Option Addr} {n4 c4:Nat} {A5:Option Addr} {n5 c5:Nat} {A7:Option Addr} {n7 c7:Nat} {A8:Option Addr} {n8 c8:Nat} {A10:Option Addr} {n10 c10:Nat} {A11:Option Addr} {n11 c11:Nat} {A13:Option Addr} {n13 c13:Nat} {A14:Option Addr} {n14 c14:Nat} {A16:Option Addr} {n16 c16:Nat} {A17:Option Addr} {n17 c17:Nat} (h:MG w m v k l) (Z:B18 w g (.bool s0) (.slice A1 n1 c1) (.slice A2 n2 c2) (.bool s1) (.slice A4 n4 c4) (.slice A5 n5 c5) (.bool s2) (.slice A7 n7 c7) (.slice A8 n8 c8) (.bool s3) (.slice A10 n10 c10) (.slice A11 n11 c11) (.bool s4) (.slice A13 n13 c13) (.slice A14 n14 c14) (.bool s5) (.slice A16 n16 c16) (.slice A17 n17 c17)) (a0 a1 a2 a3 a4 a5 a6 a7 a8 a9 a10 a11 a12 a13 a14 a15 a16 a17:Value):MG ((((((((((((((((((w.setCell ⟨g,0,none⟩ a0).setCell ⟨g,1,none⟩ a1).setCell ⟨g,2,none⟩ a2).setCell ⟨g,3,none⟩ a3).setCell ⟨g,4,none⟩ a4).setCell ⟨g,5,none⟩ a5).setCell ⟨g,6,none⟩ a6).setCell ⟨g,7,none⟩ a7).setCell ⟨g,8,none⟩ a8).setCell ⟨g,9,none⟩ a9).setCell ⟨g,10,none⟩ a10).setCell ⟨g,11,none⟩ a11).setCell ⟨g,12,none⟩ a12).setCell ⟨g,13,none⟩ a13).setCell ⟨g,14,none⟩ a14).setCell ⟨g,15,none⟩ a15).setCell ⟨g,16,none⟩ a16).setCell ⟨g,17,none⟩ a17) m v k l :=
 ⟨⟨h.1.1.set18 Z a0 a1 a2 a3 a4 a5 a6 a7 a8 a9 a10 a11 a12 a13 a14 a15 a16 a17,h.1.2.set18 Z a0 a1 a2 a3 a4 a5 a6 a7 a8 a9 a10 a11 a12 a13 a14 a15 a16 a17⟩,⟨h.2.1.1.set18 Z a0 a1 a2 a3 a4 a5 a6 a7 a8 a9 a10 a11 a12 a13 a14 a15 a16 a17,h.2.1.2.set18 Z a0 a1 a2 a3 a4 a5 a6 a7 a8 a9 a10 a11 a12 a13 a14 a15 a16 a17⟩,⟨h.2.2.1.set18 Z a0 a1 a2 a3 a4 a5 a6 a7 a8 a9 a10 a11 a12 a13 a14 a15 a16 a17,h.2.2.2.set18 Z a0 a1 a2 a3 a4 a5 a6 a7 a8 a9 a10 a11 a12 a13 a14 a15 a16 a17⟩⟩
theorem RM.set18 {g:Nat} {s0:Bool} {s1:Bool} {s2:Bool} {s3:Bool} {s4:Bool} {s5:Bool} {A1:Option Addr} {n1 c1:Nat} {A2:Option Addr} {n2 c2:Nat} {A4:Option Addr} {n4 c4:Nat} {A5:Option Addr} {n5 c5:Nat} {A7:Option Addr} {n7 c7:Nat} {A8:Option Addr} {n8 c8:Nat} {A10:Option Addr} {n10 c10:Nat} {A11:Option Addr} {n11 c11:Nat} {A13:Option Addr} {n13 c13:Nat} {A14:Option Addr} {n14 c14:Nat} {A16:Option Addr} {n16 c16:Nat} {A17:Option Addr} {n17 c17:Nat} (h:RM w m v k l) (Z:B18R w g (.bool s0) (.slice A1 n1 c1) (.slice A2 n2 c2) (.bool s1) (.slice A4 n4 c4) (.slice A5 n5 c5) (.bool s2) (.slice A7 n7 c7) (.slice A8 n8 c8) (.bool s3) (.slice A10 n10 c10) (.slice A11 n11 c11) (.bool s4) (.slice A13 n13 c13) (.slice A14 n14 c14) (.bool s5) (.slice A16 n16 c16) (.slice A17 n17 c17)) (a0 a1 a2 a3 a4 a5 a6 a7 a8 a9 a10 a11 a12 a13 a14 a15 a16 a17:Value):RM ((((((((((((((((((w.setCell ⟨g,0,none⟩ a0).setCell ⟨g,1,none⟩ a1).setCell ⟨g,2,none⟩ a2).setCell ⟨g,3,none⟩ a3).setCell ⟨g,4,none⟩ a4).setCell ⟨g,5,none⟩ a5).setCell ⟨g,6,none⟩ a6).setCell ⟨g,7,none⟩ a7).setCell ⟨g,8,none⟩ a8).setCell ⟨g,9,none⟩ a9).setCell ⟨g,10,none⟩ a10).setCell ⟨g,11,none⟩ a11).setCell ⟨g,12,none⟩ a12).setCell ⟨g,13,none⟩ a13).setCell ⟨g,14,none⟩ a14).setCell ⟨g,15,none⟩ a15).setCell ⟨g,16,none⟩ a16).setCell ⟨g,17,none⟩ a17) m v k l:=by
 have ho:=only_set18 w g a0 a1 a2 a3 a4 a5 a6 a7 a8 a9 a10 a11 a12 a13 a14 a15 a16 a17
 exact ⟨⟨h.1.1.onl (h.1.1.1.2.1.offB18R Z) (h.1.1.2.1.offB18R Z) ho,h.1.2.onl (h.1.2.1.2.1.offB18R Z) (h.1.2.2.1.offB18R Z) ho⟩,⟨h.2.1.1.onl (h.2.1.1.1.2.1.offB18R Z) (h.2.1.1.2.1.offB18R Z) ho,h.2.1.2.onl (h.2.1.2.1.2.1.offB18R Z) (h.2.1.2.2.1.offB18R Z) ho⟩,⟨h.2.2.1.onl (h.2.2.1.1.2.1.offB18R Z) (h.2.2.1.2.1.offB18R Z) ho,h.2.2.2.onl (h.2.2.2.1.2.1.offB18R Z) (h.2.2.2.2.1.offB18R Z) ho⟩⟩
end
theorem res_M {fn:Func} {a:Tmp} (h:fn.results=#[.cell a 33]) (tmps:Array Value) (w:World) {g:Nat} {c:Array Value} (ha:tmps[a]?.getD undef=.pointer (some ⟨g,0,none⟩)) (hl:(LVM ⟨g,0,none⟩).run Tryz.prog w=.ok (.agg c) w):(results fn tmps).run Tryz.prog w=.ok (.agg c) w:=by
 unfold results
 rw [h]
 simp only [List.mapM_toArray]
 simp [asAddr,ha,open_LVM,hl]
theorem res_N {fn:Func} {a:Tmp} (h:fn.results=#[.cell a 54]) (tmps:Array Value) (w:World) {g:Nat} {c:Array Value} (ha:tmps[a]?.getD undef=.pointer (some ⟨g,0,none⟩)) (hl:(LVN ⟨g,0,none⟩).run Tryz.prog w=.ok (.agg c) w):(results fn tmps).run Tryz.prog w=.ok (.agg c) w:=by
 unfold results
 rw [h]
 simp only [List.mapM_toArray]
 simp [asAddr,ha,open_LVN,hl]
attribute [local go_sem ↓] open_LVM open_STM open_LVN open_STN
theorem MG.box {T:TypeId} {w w':World} {g:Nat} {cs:Array Value} {u:MV} {v:AM} {k l:Nat} (h:MG w u v k l) (Z:BoxAt T w g cs) (ho:Only g w w'):MG w' u v k l:=⟨⟨h.1.1.box Z ho,h.1.2.box Z ho⟩,⟨h.2.1.1.box Z ho,h.2.1.2.box Z ho⟩,⟨h.2.2.1.box Z ho,h.2.2.2.box Z ho⟩⟩
theorem RM.box {T:TypeId} {w w':World} {g:Nat} {cs:Array Value} {u:MV} {v:AM} {k l:Nat} (h:RM w u v k l) (Z:BoxAt T w g cs) (ho:Only g w w'):RM w' u v k l:=⟨⟨h.1.1.box Z ho,h.1.2.box Z ho⟩,⟨h.2.1.1.box Z ho,h.2.1.2.box Z ho⟩,⟨h.2.2.1.box Z ho,h.2.2.2.box Z ho⟩⟩
def QV.zero:QV:=⟨false,none,0,0,none,0,0⟩
def MU (w:World) (m:MV) (v:AM) (k _l:Nat):Prop:=PG w m.a.s m.a.A m.a.n m.a.c m.a.B m.a.m m.a.d m.b.s m.b.A m.b.n m.b.c m.b.B m.b.m m.b.d v.a v.b k∧PG w m.c.s m.c.A m.c.n m.c.c m.c.B m.c.m m.c.d m.d.s m.d.A m.d.n m.d.c m.d.B m.d.m m.d.d v.c v.d k∧m.e=QV.zero∧m.f=QV.zero∧v.e=0∧v.f=0
section
variable {w w':World} {m:MV} {v:AM} {k l:Nat}
theorem MU.below (h:MU w m v k l) (hb:Below w.heap.size w w'):MU w' m v k l:=⟨h.1.below hb,h.2.1.below hb,h.2.2⟩
theorem MU.box {T:TypeId} {g:Nat} {cs:Array Value} (h:MU w m v k l) (Z:BoxAt T w g cs) (ho:Only g w w'):MU w' m v k l:=⟨⟨h.1.1.box Z ho,h.1.2.box Z ho⟩,⟨h.2.1.1.box Z ho,h.2.1.2.box Z ho⟩,h.2.2⟩
end
theorem run_build6 {e1:Operand→Value} {x1 x2:Operand} {d1:Option Tmp} {y1:Nat} {pos:String} {af:Array Edge} {a b c d e f:Value} (h:e1 x1=.agg #[a,b,c]) (h2:e1 x2=.agg #[d,e,f]) :
 (execOp e1 ⟨d1,.build 28 #[(0,x1),(1,x2)],y1,pos,af,none⟩).run Tryz.prog w=.ok (.value (.agg #[a,b,c,d,e,f])) w:=by
 go_simp
theorem B6.restm {W W':World} {g k:Nat} {x y z u v t:Value} (h:B6 W g x y z u v t) (hne:g ≠ k) (ho:Only k W W'):B6 W' g x y z u v t:=(ho.block g h.lt hne).trans h
theorem B6R.restm {W W':World} {g k:Nat} {x y z u v t:Value} (h:B6R W g x y z u v t) (hne:g ≠ k) (ho:Only k W W'):B6R W' g x y z u v t:=(ho.block g h.lt hne).trans h
theorem B3.restm {W W':World} {g k:Nat} {x y z:Value} (h:B3 W g x y z) (hne:g ≠ k) (ho:Only k W W'):B3 W' g x y z:=(ho.block g h.lt hne).trans h
theorem B3R.restm {W W':World} {g k:Nat} {x y z:Value} (h:B3R W g x y z) (hne:g ≠ k) (ho:Only k W W'):B3R W' g x y z:=(ho.block g h.lt hne).trans h
theorem only_set6 (W:World) (g:Nat) (a b c d e f:Value):Only g W ((((((W.setCell ⟨g,0,none⟩ a).setCell ⟨g,1,none⟩ b).setCell ⟨g,2,none⟩ c).setCell ⟨g,3,none⟩ d).setCell ⟨g,4,none⟩ e).setCell ⟨g,5,none⟩ f):=((((((Only.refl g W).setCell 0 _).setCell 1 _).setCell 2 _).setCell 3 _).setCell 4 _).setCell 5 _
theorem only_set3 (W:World) (g:Nat) (a b c:Value):Only g W (((W.setCell ⟨g,0,none⟩ a).setCell ⟨g,1,none⟩ b).setCell ⟨g,2,none⟩ c):=(((Only.refl g W).setCell 0 _).setCell 1 _).setCell 2 _
end
section
open Go Go.RowKit
attribute [local go_sem ↓] open_LVM open_STM open_LVN open_STN
theorem mkbx32_12 {w W:World} {x0 x1 x2 x3 x4 x5 x6 x7 x8 x9 x10 x11 x12 x13 x14 x15 x16 x17 x18 x19 x20 x21 x22 x23:Value} (h:((w.alloc (Obj.cells #[x0,x1,x2,x3,x4,x5,x6,x7,x8,x9,x10,x11,x12,x13,x14,x15,x16,x17] 33)).alloc (Obj.cells #[x18,x19,x20,x21,x22,x23] 28))=W):Below w.heap.size w W∧B18 W (w.heap.size) x0 x1 x2 x3 x4 x5 x6 x7 x8 x9 x10 x11 x12 x13 x14 x15 x16 x17∧B6 W (w.heap.size+1) x18 x19 x20 x21 x22 x23∧W.heap.size=w.heap.size+2:=by subst h;exact ⟨by exact (((Below.refl _ _).alloc (Nat.le_refl _) _).alloc (by simp) _),by exact (B18.new' _ _ _ _ _ _ _ _ _ _ _ _ _ _ _ _ _ _ _ _ rfl).alloc _,by exact B6.new' _ _ _ _ _ _ _ _ (by simp),by simp⟩
theorem mfirst_any {m:MV} :
 Calls Tryz.prog 113 #[.agg #[.bool m.a.s,.slice m.a.A m.a.n m.a.c,.slice m.a.B m.a.m m.a.d,.bool m.b.s,.slice m.b.A m.b.n m.b.c,.slice m.b.B m.b.m m.b.d,.bool m.c.s,.slice m.c.A m.c.n m.c.c,.slice m.c.B m.c.m m.c.d,.bool m.d.s,.slice m.d.A m.d.n m.d.c,.slice m.d.B m.d.m m.d.d,.bool m.e.s,.slice m.e.A m.e.n m.e.c,.slice m.e.B m.e.m m.e.d,.bool m.f.s,.slice m.f.A m.f.n m.f.c,.slice m.f.B m.f.m m.f.d]] w fun e w'=>e=.returned (.agg #[.bool m.a.s,.slice m.a.A m.a.n m.a.c,.slice m.a.B m.a.m m.a.d,.bool m.b.s,.slice m.b.A m.b.n m.b.c,.slice m.b.B m.b.m m.b.d])∧Below w.heap.size w w':=by
 go_enter Tryz.func113,Tryz.ntmps113
 go_upto_region 1 with (fail)
 generalize hW:World.alloc _ _=W
 obtain ⟨hb,XA,Z,hzW⟩:=mkbx32_12 hW;clear hW;obtain ⟨xa0,xa1,xa2,xa3,xa4,xa5,xa6,xa7,xa8,xa9,xa10,xa11,xa12,xa13,xa14,xa15,xa16,xa17⟩:=XA.all;have zg0:=Z.f0;have zg1:=Z.f1;have zg2:=Z.f2;have zg3:=Z.f3;have zg4:=Z.f4;have zg5:=Z.f5;obtain ⟨zc0,zc1,zc2,zc3,zc4,zc5⟩:=Z.all
 go_wp2_with fail
 have Z2:=Z.set6 (.bool m.a.s) (.slice m.a.A m.a.n m.a.c) (.slice m.a.B m.a.m m.a.d) (.bool m.b.s) (.slice m.b.A m.b.n m.b.c) (.slice m.b.B m.b.m m.b.d)
 obtain ⟨g0,g1,g2,g3,g4,g5⟩:=Z2.all
 refine bodyPost_ret (v:=.agg #[.bool m.a.s,.slice m.a.A m.a.n m.a.c,.slice m.a.B m.a.m m.a.d,.bool m.b.s,.slice m.b.A m.b.n m.b.c,.slice m.b.B m.b.m m.b.d]) (by simp [results,Tryz.results113,go_sem,g0,g1,g2,g3,g4,g5]) rfl ?_
 exact ⟨rfl,below_set6 hb (by omega) _ _ _ _ _ _⟩
theorem msecond_any {m:MV} :
 Calls Tryz.prog 114 #[.agg #[.bool m.a.s,.slice m.a.A m.a.n m.a.c,.slice m.a.B m.a.m m.a.d,.bool m.b.s,.slice m.b.A m.b.n m.b.c,.slice m.b.B m.b.m m.b.d,.bool m.c.s,.slice m.c.A m.c.n m.c.c,.slice m.c.B m.c.m m.c.d,.bool m.d.s,.slice m.d.A m.d.n m.d.c,.slice m.d.B m.d.m m.d.d,.bool m.e.s,.slice m.e.A m.e.n m.e.c,.slice m.e.B m.e.m m.e.d,.bool m.f.s,.slice m.f.A m.f.n m.f.c,.slice m.f.B m.f.m m.f.d]] w fun e w'=>e=.returned (.agg #[.bool m.c.s,.slice m.c.A m.c.n m.c.c,.slice m.c.B m.c.m m.c.d,.bool m.d.s,.slice m.d.A m.d.n m.d.c,.slice m.d.B m.d.m m.d.d])∧Below w.heap.size w w':=by
 go_enter Tryz.func114,Tryz.ntmps114
 go_upto_region 1 with (fail)
 generalize hW:World.alloc _ _=W
 obtain ⟨hb,XA,Z,hzW⟩:=mkbx32_12 hW;clear hW;obtain ⟨xa0,xa1,xa2,xa3,xa4,xa5,xa6,xa7,xa8,xa9,xa10,xa11,xa12,xa13,xa14,xa15,xa16,xa17⟩:=XA.all;have zg0:=Z.f0;have zg1:=Z.f1;have zg2:=Z.f2;have zg3:=Z.f3;have zg4:=Z.f4;have zg5:=Z.f5;obtain ⟨zc0,zc1,zc2,zc3,zc4,zc5⟩:=Z.all
 go_wp2_with fail
 have Z2:=Z.set6 (.bool m.c.s) (.slice m.c.A m.c.n m.c.c) (.slice m.c.B m.c.m m.c.d) (.bool m.d.s) (.slice m.d.A m.d.n m.d.c) (.slice m.d.B m.d.m m.d.d)
 obtain ⟨g0,g1,g2,g3,g4,g5⟩:=Z2.all
 refine bodyPost_ret (v:=.agg #[.bool m.c.s,.slice m.c.A m.c.n m.c.c,.slice m.c.B m.c.m m.c.d,.bool m.d.s,.slice m.d.A m.d.n m.d.c,.slice m.d.B m.d.m m.d.d]) (by simp [results,Tryz.results114,go_sem,g0,g1,g2,g3,g4,g5]) rfl ?_
 exact ⟨rfl,below_set6 hb (by omega) _ _ _ _ _ _⟩
theorem mmoved_any {m:MV} :
 Calls Tryz.prog 75 #[.agg #[.bool m.a.s,.slice m.a.A m.a.n m.a.c,.slice m.a.B m.a.m m.a.d,.bool m.b.s,.slice m.b.A m.b.n m.b.c,.slice m.b.B m.b.m m.b.d,.bool m.c.s,.slice m.c.A m.c.n m.c.c,.slice m.c.B m.c.m m.c.d,.bool m.d.s,.slice m.d.A m.d.n m.d.c,.slice m.d.B m.d.m m.d.d,.bool m.e.s,.slice m.e.A m.e.n m.e.c,.slice m.e.B m.e.m m.e.d,.bool m.f.s,.slice m.f.A m.f.n m.f.c,.slice m.f.B m.f.m m.f.d]] w fun e w'=>e=.returned (.agg #[.bool m.e.s,.slice m.e.A m.e.n m.e.c,.slice m.e.B m.e.m m.e.d,.bool m.f.s,.slice m.f.A m.f.n m.f.c,.slice m.f.B m.f.m m.f.d])∧Below w.heap.size w w':=by
 go_enter Tryz.func75,Tryz.ntmps75
 go_upto_region 1 with (fail)
 generalize hW:World.alloc _ _=W
 obtain ⟨hb,XA,Z,hzW⟩:=mkbx32_12 hW;clear hW;obtain ⟨xa0,xa1,xa2,xa3,xa4,xa5,xa6,xa7,xa8,xa9,xa10,xa11,xa12,xa13,xa14,xa15,xa16,xa17⟩:=XA.all;have zg0:=Z.f0;have zg1:=Z.f1;have zg2:=Z.f2;have zg3:=Z.f3;have zg4:=Z.f4;have zg5:=Z.f5;obtain ⟨zc0,zc1,zc2,zc3,zc4,zc5⟩:=Z.all
 go_wp2_with fail
 have Z2:=Z.set6 (.bool m.e.s) (.slice m.e.A m.e.n m.e.c) (.slice m.e.B m.e.m m.e.d) (.bool m.f.s) (.slice m.f.A m.f.n m.f.c) (.slice m.f.B m.f.m m.f.d)
 obtain ⟨g0,g1,g2,g3,g4,g5⟩:=Z2.all
 refine bodyPost_ret (v:=.agg #[.bool m.e.s,.slice m.e.A m.e.n m.e.c,.slice m.e.B m.e.m m.e.d,.bool m.f.s,.slice m.f.A m.f.n m.f.c,.slice m.f.B m.f.m m.f.d]) (by simp [results,Tryz.results75,go_sem,g0,g1,g2,g3,g4,g5]) rfl ?_
 exact ⟨rfl,below_set6 hb (by omega) _ _ _ _ _ _⟩
theorem mkbx33_12 {w W:World} {x0 x1 x2 x3 x4 x5 x6 x7 x8 x9 x10 x11 x12 x13 x14 x15 x16 x17 x18 x19 x20 x21 x22 x23 x24 x25 x26 x27 x28 x29 x30 x31 x32 x33 x34 x35:Value} (h:((((w.alloc (Obj.cells #[x0,x1,x2,x3,x4,x5] 28)).alloc (Obj.cells #[x6,x7,x8,x9,x10,x11] 28)).alloc (Obj.cells #[x12,x13,x14,x15,x16,x17] 28)).alloc (Obj.cells #[x18,x19,x20,x21,x22,x23,x24,x25,x26,x27,x28,x29,x30,x31,x32,x33,x34,x35] 33))=W):Below w.heap.size w W∧B6 W (w.heap.size) x0 x1 x2 x3 x4 x5∧B6 W (w.heap.size+1) x6 x7 x8 x9 x10 x11∧B6 W (w.heap.size+1+1) x12 x13 x14 x15 x16 x17∧B18 W (w.heap.size+1+1+1) x18 x19 x20 x21 x22 x23 x24 x25 x26 x27 x28 x29 x30 x31 x32 x33 x34 x35∧W.heap.size=w.heap.size+4:=by subst h;exact ⟨by exact (((((Below.refl _ _).alloc (Nat.le_refl _) _).alloc (by simp) _).alloc (by simp;omega) _).alloc (by simp;omega) _),by exact (((B6.new' _ _ _ _ _ _ _ _ rfl).alloc _).alloc _).alloc _,by exact ((B6.new' _ _ _ _ _ _ _ _ (by simp)).alloc _).alloc _,by exact (B6.new' _ _ _ _ _ _ _ _ (by simp)).alloc _,by exact B18.new' _ _ _ _ _ _ _ _ _ _ _ _ _ _ _ _ _ _ _ _ (by simp),by simp⟩
theorem mby_p {k l:Nat} {x y x2 y2 x3 y3:Rat} (p:PG w s_p A_p n_p c_p B_p m_p d_p t_p E_p i_p e_p F_p j_p f_p x y k) (q:PG w s_q A_q n_q c_q B_q m_q d_q t_q E_q i_q e_q F_q j_q f_q x2 y2 k) (r:PG w s_r A_r n_r c_r B_r m_r d_r t_r E_r i_r e_r F_r j_r f_r x3 y3 l) :
 Calls Tryz.prog 67 #[.agg #[.bool s_p,.slice A_p n_p c_p,.slice B_p m_p d_p,.bool t_p,.slice E_p i_p e_p,.slice F_p j_p f_p],.agg #[.bool s_q,.slice A_q n_q c_q,.slice B_q m_q d_q,.bool t_q,.slice E_q i_q e_q,.slice F_q j_q f_q],.agg #[.bool s_r,.slice A_r n_r c_r,.slice B_r m_r d_r,.bool t_r,.slice E_r i_r e_r,.slice F_r j_r f_r]] w (GivesMt w ⟨x,y,x2,y2,x3,y3⟩ k l):=by
 go_enter Tryz.func67,Tryz.ntmps67
 go_upto_region 1 with (fail)
 generalize hW:World.alloc _ _=W
 obtain ⟨hb,XA,XB,XC,Z,hzW⟩:=mkbx33_12 hW;clear hW;replace p:=p.below hb;replace q:=q.below hb;replace r:=r.below hb;obtain ⟨xa0,xa1,xa2,xa3,xa4,xa5⟩:=XA.all;obtain ⟨xb0,xb1,xb2,xb3,xb4,xb5⟩:=XB.all;obtain ⟨xc0,xc1,xc2,xc3,xc4,xc5⟩:=XC.all
 have zst:=Z.st (.bool s_p) (.slice A_p n_p c_p) (.slice B_p m_p d_p) (.bool t_p) (.slice E_p i_p e_p) (.slice F_p j_p f_p) (.bool s_q) (.slice A_q n_q c_q) (.slice B_q m_q d_q) (.bool t_q) (.slice E_q i_q e_q) (.slice F_q j_q f_q) (.bool s_r) (.slice A_r n_r c_r) (.slice B_r m_r d_r) (.bool t_r) (.slice E_r i_r e_r) (.slice F_r j_r f_r) (by simp [Value.oneCell'])
 go_wp2_with fail
 have Z2:=Z.set18 (.bool s_p) (.slice A_p n_p c_p) (.slice B_p m_p d_p) (.bool t_p) (.slice E_p i_p e_p) (.slice F_p j_p f_p) (.bool s_q) (.slice A_q n_q c_q) (.slice B_q m_q d_q) (.bool t_q) (.slice E_q i_q e_q) (.slice F_q j_q f_q) (.bool s_r) (.slice A_r n_r c_r) (.slice B_r m_r d_r) (.bool t_r) (.slice E_r i_r e_r) (.slice F_r j_r f_r)
 have gl:=Z2.ld
 refine bodyPost_ret (v:=.agg #[.bool s_p,.slice A_p n_p c_p,.slice B_p m_p d_p,.bool t_p,.slice E_p i_p e_p,.slice F_p j_p f_p,.bool s_q,.slice A_q n_q c_q,.slice B_q m_q d_q,.bool t_q,.slice E_q i_q e_q,.slice F_q j_q f_q,.bool s_r,.slice A_r n_r c_r,.slice B_r m_r d_r,.bool t_r,.slice E_r i_r e_r,.slice F_r j_r f_r]) (res_M Tryz.results67 _ _ (by simp) gl) rfl ?_
 exact ⟨⟨⟨s_p,A_p,n_p,c_p,B_p,m_p,d_p⟩,⟨t_p,E_p,i_p,e_p,F_p,j_p,f_p⟩,⟨s_q,A_q,n_q,c_q,B_q,m_q,d_q⟩,⟨t_q,E_q,i_q,e_q,F_q,j_q,f_q⟩,⟨s_r,A_r,n_r,c_r,B_r,m_r,d_r⟩,⟨t_r,E_r,i_r,e_r,F_r,j_r,f_r⟩⟩,rfl,MG.set18 (m:=⟨⟨s_p,A_p,n_p,c_p,B_p,m_p,d_p⟩,⟨t_p,E_p,i_p,e_p,F_p,j_p,f_p⟩,⟨s_q,A_q,n_q,c_q,B_q,m_q,d_q⟩,⟨t_q,E_q,i_q,e_q,F_q,j_q,f_q⟩,⟨s_r,A_r,n_r,c_r,B_r,m_r,d_r⟩,⟨t_r,E_r,i_r,e_r,F_r,j_r,f_r⟩⟩) (v:=⟨x,y,x2,y2,x3,y3⟩) ⟨p,q,r⟩ Z _ _ _ _ _ _ _ _ _ _ _ _ _ _ _ _ _ _,below_set18 hb (by omega) _ _ _ _ _ _ _ _ _ _ _ _ _ _ _ _ _ _⟩
theorem mkbx34_12 {w W:World} {x0 x1 x2 x3 x4 x5 x6 x7 x8 x9 x10 x11 x12 x13 x14 x15 x16 x17 x18 x19 x20 x21 x22 x23 x24 x25 x26 x27 x28 x29:Value} (h:(((w.alloc (Obj.cells #[x0,x1,x2,x3,x4,x5,x6,x7,x8,x9,x10,x11,x12,x13,x14,x15,x16,x17] 33)).alloc (Obj.cells #[x18,x19,x20,x21,x22,x23] 28)).alloc (Obj.cells #[x24,x25,x26,x27,x28,x29] 28))=W):Below w.heap.size w W∧B18 W (w.heap.size) x0 x1 x2 x3 x4 x5 x6 x7 x8 x9 x10 x11 x12 x13 x14 x15 x16 x17∧B6 W (w.heap.size+1) x18 x19 x20 x21 x22 x23∧B6 W (w.heap.size+1+1) x24 x25 x26 x27 x28 x29∧W.heap.size=w.heap.size+3:=by subst h;exact ⟨by exact ((((Below.refl _ _).alloc (Nat.le_refl _) _).alloc (by simp) _).alloc (by simp;omega) _),by exact ((B18.new' _ _ _ _ _ _ _ _ _ _ _ _ _ _ _ _ _ _ _ _ rfl).alloc _).alloc _,by exact (B6.new' _ _ _ _ _ _ _ _ (by simp)).alloc _,by exact B6.new' _ _ _ _ _ _ _ _ (by simp),by simp⟩
theorem mdir_p {k l k2:Nat} {v:AM} {m:MV} {x y:Rat} (M:MR w m v k l) (p:PR w s_p A_p n_p c_p B_p m_p d_p t_p E_p i_p e_p F_p j_p f_p x y k2) (hk:k+k2≤29000) (h1:1≤k) (h2:1≤k2) :
 Calls Tryz.prog 74 #[.agg #[.bool m.a.s,.slice m.a.A m.a.n m.a.c,.slice m.a.B m.a.m m.a.d,.bool m.b.s,.slice m.b.A m.b.n m.b.c,.slice m.b.B m.b.m m.b.d,.bool m.c.s,.slice m.c.A m.c.n m.c.c,.slice m.c.B m.c.m m.c.d,.bool m.d.s,.slice m.d.A m.d.n m.d.c,.slice m.d.B m.d.m m.d.d,.bool m.e.s,.slice m.e.A m.e.n m.e.c,.slice m.e.B m.e.m m.e.d,.bool m.f.s,.slice m.f.A m.f.n m.f.c,.slice m.f.B m.f.m m.f.d],.agg #[.bool s_p,.slice A_p n_p c_p,.slice B_p m_p d_p,.bool t_p,.slice E_p i_p e_p,.slice F_p j_p f_p]] w (GivesPt w (v.dx x y) (v.dy x y) (k+k2+(k+k2)+1)):=by
 go_enter Tryz.func74,Tryz.ntmps74
 go_upto_region 1 with (fail)
 generalize hW:World.alloc _ _=W
 obtain ⟨hb,XA,XB,Z,hzW⟩:=mkbx34_12 hW;clear hW;replace M:=M.below hb;replace p:=p.below hb
 replace M:=M.below (Below.refl _ _).drew
 replace p:=p.below (Below.refl _ _).drew
 replace XA:=XA.below (Below.refl _ _).drew
 replace XB:=XB.below (Below.refl _ _).drew
 replace Z:=Z.below (Below.refl _ _).drew
 replace hb:=hb.drew
 go_region_held3 (fun w'=>(LVM ⟨w.heap.size,0,none⟩).run Tryz.prog w'=.ok (.agg #[.bool m.a.s,.slice m.a.A m.a.n m.a.c,.slice m.a.B m.a.m m.a.d,.bool m.b.s,.slice m.b.A m.b.n m.b.c,.slice m.b.B m.b.m m.b.d,.bool m.c.s,.slice m.c.A m.c.n m.c.c,.slice m.c.B m.c.m m.c.d,.bool m.d.s,.slice m.d.A m.d.n m.d.c,.slice m.d.B m.d.m m.d.d,.bool m.e.s,.slice m.e.A m.e.n m.e.c,.slice m.e.B m.e.m m.e.d,.bool m.f.s,.slice m.f.A m.f.n m.f.c,.slice m.f.B m.f.m m.f.d]) w'∧w'.cell? ⟨w.heap.size+1,0,none⟩=some (.bool s_p)∧w'.cell? ⟨w.heap.size+1,1,none⟩=some (.slice A_p n_p c_p)∧w'.cell? ⟨w.heap.size+1,2,none⟩=some (.slice B_p m_p d_p)∧w'.cell? ⟨w.heap.size+1,3,none⟩=some (.bool t_p)∧w'.cell? ⟨w.heap.size+1,4,none⟩=some (.slice E_p i_p e_p)∧w'.cell? ⟨w.heap.size+1,5,none⟩=some (.slice F_p j_p f_p))
  (first | with_reducible exact ⟨XA.ld,XB.c0,XB.c1,XB.c2,XB.c3,XB.c4,XB.c5⟩ | with_reducible exact ⟨(XA.restm (by omega) (only_set6 _ _ _ _ _ _ _ _)).ld,(XB.restm (by omega) (only_set6 _ _ _ _ _ _ _ _)).c0,(XB.restm (by omega) (only_set6 _ _ _ _ _ _ _ _)).c1,(XB.restm (by omega) (only_set6 _ _ _ _ _ _ _ _)).c2,(XB.restm (by omega) (only_set6 _ _ _ _ _ _ _ _)).c3,(XB.restm (by omega) (only_set6 _ _ _ _ _ _ _ _)).c4,(XB.restm (by omega) (only_set6 _ _ _ _ _ _ _ _)).c5⟩)
  (first
  | (go_at_call 113;(with_reducible refine (mfirst_any).mono ?_);rintro e w_z ⟨rfl,hh⟩
     (try replace M:=M.below hh);(try replace p:=p.below hh);(try replace XA:=XA.below hh);(try replace XB:=XB.below hh);(try replace Z:=Z.below hh);(try replace r1:=r1.below hh);(try replace r2:=r2.below hh);(try replace r3:=r3.below hh);replace hb:=bend hb hh)
  | (go_at_call 114;(with_reducible refine (msecond_any).mono ?_);rintro e w_z ⟨rfl,hh⟩
     (try replace M:=M.below hh);(try replace p:=p.below hh);(try replace XA:=XA.below hh);(try replace XB:=XB.below hh);(try replace Z:=Z.below hh);(try replace r1:=r1.below hh);(try replace r2:=r2.below hh);(try replace r3:=r3.below hh);replace hb:=bend hb hh)
  | (go_at_call 63;(with_reducible refine (pscale_p M.ab p.qx (by omega) (by omega) (.inl (by omega)) (by omega) (by omega)).mono ?_);rintro e w_r1 ⟨s_r1,A_r1,n_r1,c_r1,B_r1,m_r1,d_r1,t_r1,E_r1,i_r1,e_r1,F_r1,j_r1,f_r1,rfl,r1,hh⟩
     (try replace M:=M.below hh);(try replace p:=p.below hh);(try replace XA:=XA.below hh);(try replace XB:=XB.below hh);(try replace Z:=Z.below hh);(try replace r2:=r2.below hh);(try replace r3:=r3.below hh);replace hb:=bend hb hh)
  | (go_at_call 63;(with_reducible refine (pscale_p M.cd p.qy (by omega) (by omega) (.inl (by omega)) (by omega) (by omega)).mono ?_);rintro e w_r2 ⟨s_r2,A_r2,n_r2,c_r2,B_r2,m_r2,d_r2,t_r2,E_r2,i_r2,e_r2,F_r2,j_r2,f_r2,rfl,r2,hh⟩
     (try replace M:=M.below hh);(try replace p:=p.below hh);(try replace XA:=XA.below hh);(try replace XB:=XB.below hh);(try replace Z:=Z.below hh);(try replace r1:=r1.below hh);(try replace r3:=r3.below hh);replace hb:=bend hb hh)
  | (go_at_call 73;(with_reducible refine (padd_p r1.pr r2.pr (by omega) (by omega) (.inl (by omega)) (by omega) (by omega)).mono ?_);rintro e w_r3 ⟨s_r3,A_r3,n_r3,c_r3,B_r3,m_r3,d_r3,t_r3,E_r3,i_r3,e_r3,F_r3,j_r3,f_r3,rfl,r3,hh⟩
     (try replace M:=M.below hh);(try replace p:=p.below hh);(try replace XA:=XA.below hh);(try replace XB:=XB.below hh);(try replace Z:=Z.below hh);(try replace r1:=r1.below hh);(try replace r2:=r2.below hh);replace hb:=bend hb hh;have zg0:=Z.f0;have zg1:=Z.f1;have zg2:=Z.f2;have zg3:=Z.f3;have zg4:=Z.f4;have zg5:=Z.f5;obtain ⟨zc0,zc1,zc2,zc3,zc4,zc5⟩:=Z.all))
 go_wp2_with fail
 have Z2:=Z.set6 (.bool s_r3) (.slice A_r3 n_r3 c_r3) (.slice B_r3 m_r3 d_r3) (.bool t_r3) (.slice E_r3 i_r3 e_r3) (.slice F_r3 j_r3 f_r3)
 obtain ⟨g0,g1,g2,g3,g4,g5⟩:=Z2.all
 refine bodyPost_ret (v:=.agg #[.bool s_r3,.slice A_r3 n_r3 c_r3,.slice B_r3 m_r3 d_r3,.bool t_r3,.slice E_r3 i_r3 e_r3,.slice F_r3 j_r3 f_r3]) (by simp [results,Tryz.results74,go_sem,g0,g1,g2,g3,g4,g5]) rfl ?_
 exact ⟨s_r3,A_r3,n_r3,c_r3,B_r3,m_r3,d_r3,t_r3,E_r3,i_r3,e_r3,F_r3,j_r3,f_r3,rfl,r3.set6 Z _ _ _ _ _ _,below_set6 hb (by omega) _ _ _ _ _ _⟩
theorem mapply_p {k l k2:Nat} {v:AM} {m:MV} {x y:Rat} (M:MR w m v k l) (p:PR w s_p A_p n_p c_p B_p m_p d_p t_p E_p i_p e_p F_p j_p f_p x y k2) (hk:k+k2≤14000) (hl:l≤29000) (h1:1≤k) (h2:1≤k2) (h3:1≤l) :
 Calls Tryz.prog 38 #[.agg #[.bool m.a.s,.slice m.a.A m.a.n m.a.c,.slice m.a.B m.a.m m.a.d,.bool m.b.s,.slice m.b.A m.b.n m.b.c,.slice m.b.B m.b.m m.b.d,.bool m.c.s,.slice m.c.A m.c.n m.c.c,.slice m.c.B m.c.m m.c.d,.bool m.d.s,.slice m.d.A m.d.n m.d.c,.slice m.d.B m.d.m m.d.d,.bool m.e.s,.slice m.e.A m.e.n m.e.c,.slice m.e.B m.e.m m.e.d,.bool m.f.s,.slice m.f.A m.f.n m.f.c,.slice m.f.B m.f.m m.f.d],.agg #[.bool s_p,.slice A_p n_p c_p,.slice B_p m_p d_p,.bool t_p,.slice E_p i_p e_p,.slice F_p j_p f_p]] w (GivesPt w (v.ax x y) (v.ay x y) ((k+k2+(k+k2)+1)+l+1)):=by
 go_enter Tryz.func38,Tryz.ntmps38
 go_upto_region 1 with (fail)
 generalize hW:World.alloc _ _=W
 obtain ⟨hb,XA,XB,Z,hzW⟩:=mkbx34_12 hW;clear hW;replace M:=M.below hb;replace p:=p.below hb
 replace M:=M.below (Below.refl _ _).drew
 replace p:=p.below (Below.refl _ _).drew
 replace XA:=XA.below (Below.refl _ _).drew
 replace XB:=XB.below (Below.refl _ _).drew
 replace Z:=Z.below (Below.refl _ _).drew
 replace hb:=hb.drew
 go_region_held3 (fun w'=>(LVM ⟨w.heap.size,0,none⟩).run Tryz.prog w'=.ok (.agg #[.bool m.a.s,.slice m.a.A m.a.n m.a.c,.slice m.a.B m.a.m m.a.d,.bool m.b.s,.slice m.b.A m.b.n m.b.c,.slice m.b.B m.b.m m.b.d,.bool m.c.s,.slice m.c.A m.c.n m.c.c,.slice m.c.B m.c.m m.c.d,.bool m.d.s,.slice m.d.A m.d.n m.d.c,.slice m.d.B m.d.m m.d.d,.bool m.e.s,.slice m.e.A m.e.n m.e.c,.slice m.e.B m.e.m m.e.d,.bool m.f.s,.slice m.f.A m.f.n m.f.c,.slice m.f.B m.f.m m.f.d]) w'∧w'.cell? ⟨w.heap.size+1,0,none⟩=some (.bool s_p)∧w'.cell? ⟨w.heap.size+1,1,none⟩=some (.slice A_p n_p c_p)∧w'.cell? ⟨w.heap.size+1,2,none⟩=some (.slice B_p m_p d_p)∧w'.cell? ⟨w.heap.size+1,3,none⟩=some (.bool t_p)∧w'.cell? ⟨w.heap.size+1,4,none⟩=some (.slice E_p i_p e_p)∧w'.cell? ⟨w.heap.size+1,5,none⟩=some (.slice F_p j_p f_p))
  (first | with_reducible exact ⟨XA.ld,XB.c0,XB.c1,XB.c2,XB.c3,XB.c4,XB.c5⟩ | with_reducible exact ⟨(XA.restm (by omega) (only_set6 _ _ _ _ _ _ _ _)).ld,(XB.restm (by omega) (only_set6 _ _ _ _ _ _ _ _)).c0,(XB.restm (by omega) (only_set6 _ _ _ _ _ _ _ _)).c1,(XB.restm (by omega) (only_set6 _ _ _ _ _ _ _ _)).c2,(XB.restm (by omega) (only_set6 _ _ _ _ _ _ _ _)).c3,(XB.restm (by omega) (only_set6 _ _ _ _ _ _ _ _)).c4,(XB.restm (by omega) (only_set6 _ _ _ _ _ _ _ _)).c5⟩)
  (first
  | (go_at_call 74;(with_reducible refine (mdir_p M p (by omega) (by omega) (by omega)).mono ?_);rintro e w_r1 ⟨s_r1,A_r1,n_r1,c_r1,B_r1,m_r1,d_r1,t_r1,E_r1,i_r1,e_r1,F_r1,j_r1,f_r1,rfl,r1,hh⟩
     (try replace M:=M.below hh);(try replace p:=p.below hh);(try replace XA:=XA.below hh);(try replace XB:=XB.below hh);(try replace Z:=Z.below hh);(try replace r3:=r3.below hh);replace hb:=bend hb hh)
  | (go_at_call 75;(with_reducible refine (mmoved_any).mono ?_);rintro e w_z ⟨rfl,hh⟩
     (try replace M:=M.below hh);(try replace p:=p.below hh);(try replace XA:=XA.below hh);(try replace XB:=XB.below hh);(try replace Z:=Z.below hh);(try replace r1:=r1.below hh);(try replace r3:=r3.below hh);replace hb:=bend hb hh)
  | (go_at_call 73;(with_reducible refine (padd_p r1.pr M.ef (by omega) (by omega) (.inl (by omega)) (by omega) (by omega)).mono ?_);rintro e w_r3 ⟨s_r3,A_r3,n_r3,c_r3,B_r3,m_r3,d_r3,t_r3,E_r3,i_r3,e_r3,F_r3,j_r3,f_r3,rfl,r3,hh⟩
     (try replace M:=M.below hh);(try replace p:=p.below hh);(try replace XA:=XA.below hh);(try replace XB:=XB.below hh);(try replace Z:=Z.below hh);(try replace r1:=r1.below hh);replace hb:=bend hb hh;have zg0:=Z.f0;have zg1:=Z.f1;have zg2:=Z.f2;have zg3:=Z.f3;have zg4:=Z.f4;have zg5:=Z.f5;obtain ⟨zc0,zc1,zc2,zc3,zc4,zc5⟩:=Z.all))
 go_wp2_with fail
 have Z2:=Z.set6 (.bool s_r3) (.slice A_r3 n_r3 c_r3) (.slice B_r3 m_r3 d_r3) (.bool t_r3) (.slice E_r3 i_r3 e_r3) (.slice F_r3 j_r3 f_r3)
 obtain ⟨g0,g1,g2,g3,g4,g5⟩:=Z2.all
 refine bodyPost_ret (v:=.agg #[.bool s_r3,.slice A_r3 n_r3 c_r3,.slice B_r3 m_r3 d_r3,.bool t_r3,.slice E_r3 i_r3 e_r3,.slice F_r3 j_r3 f_r3]) (by simp [results,Tryz.results38,go_sem,g0,g1,g2,g3,g4,g5]) rfl ?_
 exact ⟨s_r3,A_r3,n_r3,c_r3,B_r3,m_r3,d_r3,t_r3,E_r3,i_r3,e_r3,F_r3,j_r3,f_r3,rfl,r3.set6 Z _ _ _ _ _ _,below_set6 hb (by omega) _ _ _ _ _ _⟩
end
section
theorem castN (a:Nat):((a:Int):Rat)=(a:Rat):=rfl
theorem natCast_mul' (a b:Nat):((a*b:Nat):Rat)=(a:Rat)*(b:Rat):=by
 rw [← castN,← castN,← castN,Int.natCast_mul,Rat.intCast_mul]
def upQ (v:Rat) (k:Nat):Rat:=v*((4 ^ k:Nat):Rat)
def inQ (R k:Nat):Rat:=Rat.divInt (R:Int) ((2 ^ k:Nat):Int)
theorem two_pos (k:Nat):(0:Rat) < ((2 ^ k:Nat):Rat):=by
 have h:(0:Int) < ((2 ^ k:Nat):Int):=by have:=Nat.two_pow_pos k;omega
 rw [← castN];exact Rat.intCast_lt_intCast.2 h
theorem two_ne (k:Nat):((2 ^ k:Nat):Rat) ≠ 0:=fun h=>by
 have:=two_pos k;rw [h] at this;exact Rat.lt_irrefl this
theorem inQ_eq (R k:Nat):inQ R k*((2 ^ k:Nat):Rat)=(R:Rat):=by
 unfold inQ
 have h:=two_ne k
 rw [← castN (2 ^ k),← castN R,← int1,← int1,Rat.divInt_mul_divInt,Int.mul_one,Rat.divInt_eq_divInt_iff (by have:=Nat.two_pow_pos k;omega) (by decide)]
 simp
theorem four_two (k:Nat):((4 ^ k:Nat):Rat)=((2 ^ k:Nat):Rat)*((2 ^ k:Nat):Rat):=by
 rw [← natCast_mul',← Nat.mul_pow]
theorem four_pos (k:Nat):(0:Rat) < ((4 ^ k:Nat):Rat):=by rw [four_two];exact Rat.mul_pos (two_pos k) (two_pos k)
theorem inQ_sq (R k:Nat):upQ (inQ R k*inQ R k) k=((R*R:Nat):Rat):=by
 unfold upQ
 rw [four_two,natCast_mul',← inQ_eq R k]
 grind
theorem upQ_le {a b:Rat} (k:Nat):upQ a k≤upQ b k ↔ a≤b:=by
 unfold upQ
 constructor
 · exact fun h=>Rat.le_of_mul_le_mul_right h (four_pos k)
 · exact fun h=>Rat.mul_le_mul_of_nonneg_right h (Rat.le_of_lt (four_pos k))
theorem upQ_nonneg {v:Rat} (hv:0≤v) (k:Nat):0≤upQ v k:=Rat.mul_nonneg hv (Rat.le_of_lt (four_pos k))
theorem floor_nn {v:Rat} (hv:0≤v):0≤v.floor:=Rat.le_floor_iff.2 (by simpa using hv)
theorem ceil_nn {v:Rat} (hv:0≤v):0≤v.ceil:=by
 have h:=Rat.le_trans hv (@Rat.le_ceil v)
 have:((0:Int):Rat)≤(v.ceil:Rat):=h
 exact Rat.intCast_le_intCast.1 this
def IsLow (v:Rat) (k R:Nat):Prop:=IsRoot (upQ v k).floor.natAbs R
def IsHigh (v:Rat) (k H:Nat):Prop:=∃ R,IsRoot (upQ v k).ceil.natAbs R∧H=if R*R=(upQ v k).ceil.natAbs then R else R+1
theorem IsLow.le {v:Rat} {k R:Nat} (hv:0≤v) (h:IsLow v k R):inQ R k*inQ R k≤v:=by
 rw [← upQ_le k,inQ_sq]
 have h1:((R*R:Nat):Int)≤(upQ v k).floor:=by have:=h.1;have:=floor_nn (upQ_nonneg hv k);omega
 rw [← castN];exact Rat.le_floor_iff.1 h1
theorem IsHigh.ge {v:Rat} {k H:Nat} (hv:0≤v) (h:IsHigh v k H):v≤inQ H k*inQ H k:=by
 rw [← upQ_le k,inQ_sq]
 obtain ⟨R,h1,h2⟩:=h
 have h0:=ceil_nn (upQ_nonneg hv k)
 have h3:(upQ v k).ceil≤((H*H:Nat):Int):=by
  split at h2
  · rename_i e;subst h2;omega
  · subst h2;have:=h1.2;omega
 rw [← castN];exact Rat.le_trans Rat.le_ceil (Rat.intCast_le_intCast.2 h3)
end
section
open Go Go.RowKit
theorem QG.tight {s:Bool} {A A':Option Addr} {n c n' c' k k1:Nat} {v:Rat} (h:QG w s A n c A' n' c' v k) (h1:v.num.natAbs < B64 ^ k1) (h2:v.den < B64 ^ k1):QG w s A n c A' n' c' v k1 :=
 ⟨⟨h.1.1,h.1.2.1,h.1.2.2.1,by rw [← h.1.2.1.1];exact length_limbs_le B64_two h1⟩,NG.tight h.2 h2⟩
end
section
open Go Go.RowKit
abbrev oneEs (u v:Int):Array MapEntry:=#[{key:=.int .i64 u,val:=.int .i64 v,born:=0}]
theorem setObj_it (W:World) (it:Nat) (o:Obj) {a:Option Nat} {b c:Nat} {z:Array Nat} (h:W.heap[it]?=some (.mapIter a b z c)):(setObj it o).run Tryz.prog W=.ok () {W with heap:=W.heap.setIfInBounds it o}:=by
 simp only [setObj,Sem.run,h]
theorem next_one1 (W:World) (it r:Nat) (ty:TypeId) (u v:Int) (h1:W.heap[it]?=some (.mapIter (some r) 1 #[] 1)) (h2:W.heap[r]?=some (.map (oneEs u v) 1)) :
 (Instr.next (.pointer (some ⟨it,0,none⟩)) false ty).run Tryz.prog W=.ok (.tuple #[.bool true,.int .i64 u,.int .i64 v]) {W with heap:=W.heap.setIfInBounds it (.mapIter (some r) 1 #[0] 1)}:=by
 have hset:=setObj_it W it (.mapIter (some r) 1 #[0] 1) h1
 simp [Instr.next,getObj,Sem.run,h1,h2,Result.andThen,choose,Question.forced,hset]
theorem next_one2 (W:World) (it r:Nat) (ty:TypeId) (u v:Int) (h1:W.heap[it]?=some (.mapIter (some r) 1 #[0] 1)) (h2:W.heap[r]?=some (.map (oneEs u v) 1)) :
 (Instr.next (.pointer (some ⟨it,0,none⟩)) false ty).run Tryz.prog W=.ok (.tuple #[.bool false]) W:=by
 simp [Instr.next,getObj,Sem.run,h1,h2,Result.andThen,choose,Question.forced]
theorem entry_one (W:World) (it r:Nat) (u v:Int) (h1:W.heap[it]?=some (.mapIter (some r) 1 #[0] 1)) (h2:W.heap[r]?=some (.map (oneEs u v) 1)) :
 (Instr.entry (.pointer (some ⟨it,0,none⟩))).run Tryz.prog W=.ok (.tuple #[.int .i64 u,.int .i64 v]) W:=by
 simp [Instr.entry,getObj,Sem.run,h1,h2,Result.andThen]
theorem mkbx35_12 {w W:World} {x0 x1 x2:Value} (h:(w.alloc (Obj.cells #[x0,x1,x2] 26))=W):Below w.heap.size w W∧B3 W (w.heap.size) x0 x1 x2:=by subst h;exact ⟨by exact (Below.refl _ _).alloc (Nat.le_refl _) _,by exact B3.new' _ _ _ _ _ rfl⟩
theorem sum_one {r:Nat} (u v:Int) (hm:w.heap[r]?=some (.map (oneEs u v) 1)) (hu1:1≤u) (hu2:u < 9223372036854775808) (hv1:-9223372036854775808≤v) (hv2:v < 9223372036854775808) :
 Calls Tryz.prog 76 #[.map (some r)] w (GivesQ w (Rat.divInt v u) 3):=by
 have hu0:((u:Int) == 0)=false:=by simp;omega
 have h1:-9223372036854775808≤u:=by omega
 have H1:=Lib.hid h1;have H2:=Lib.hid hu2;have H3:=Lib.hid hv1;have H4:=Lib.hid hv2;have H0:=Lib.hid hu0;have HM:=Lib.hid hm
 have HS:Hid (Rat.divInt 0 1+Rat.divInt v u=Rat.divInt v u):=by
  show _=_
  rw [show Rat.divInt 0 1=0 by decide +kernel,Rat.zero_add]
 have hrlt:r < w.heap.size:=by
  rcases Nat.lt_or_ge r w.heap.size with h | h
  · exact h
  · simp [Array.getElem?_eq_none h] at hm
 clear h1 hu2 hv1 hv2 hu0 hm
 go_enter Tryz.func76,Tryz.ntmps76
 go_upto_region 1 with (fail)
 generalize hW:World.alloc _ _=W
 obtain ⟨hb,Z⟩:=mkbx35_12 hW;clear hW
 go_upto_region 2 with (first
  | (go_at_call 26;(with_reducible refine (rof_q 0 1 (by decide) (by decide) (by decide) (by decide) (by decide) _).mono ?_);rintro e w_o ⟨s_o,A_o,n_o,c_o,B_o,m_o,d_o,rfl,o,hh⟩
     replace Z:=Z.below hh;have HBS:=Lib.hid Z.lt;replace hb:=bend hb hh))
 generalize hW:World.alloc _ _=W2
 obtain ⟨hh,T⟩:=mkbx35_12 hW;clear hW;replace o:=o.below hh;replace Z:=Z.below hh;replace hb:=bend hb hh
 have hm2:W2.heap[r]?=some (.map (oneEs u v) 1):=(hb.block r hrlt).trans HM.out
 have hrg:=run_range_map (P:=Tryz.prog) W2 133 2 2 r (oneEs u v) 1 (by kernel_rfl) hm2
 go_wp2_with fail
 refine wp_loop_rounds 2 ?_
 rw [rounds_succ]
 generalize hW:W2.alloc (Obj.mapIter (some r) 1 #[] 1)=W3
 obtain ⟨it,hit⟩:∃ it,it=W2.heap.size:=⟨_,rfl⟩
 have hi1:W3.heap[it]?=some (.mapIter (some r) 1 #[] 1):=by subst hW hit;exact heap_alloc_new _ _
 have hh:Below W2.heap.size W2 W3:=by subst hW;exact (Below.refl _ _).alloc (Nat.le_refl _) _
 have hm3:W3.heap[r]?=some (.map (oneEs u v) 1):=(hh.block r (Nat.lt_of_lt_of_le hrlt hb.size)).trans hm2
 have hitl:it < W3.heap.size:=by subst hW hit;simp
 rw [← hit]
 have hn1:∀ ty,_:=fun ty=>next_one1 W3 it r ty u v hi1 hm3
 have HI:=Lib.hid hit;have HW3:=Lib.hid hW;clear hrg hit hW
 go_upto_region 4 with (fail)
 generalize hW4:({heap:=W3.heap.setIfInBounds it (Obj.mapIter (some r) 1 #[0] 1),tape:=W3.tape,drawn:=W3.drawn,os:=W3.os,output:=W3.output}:World)=W4
 have hit:=HI.out
 have hi4:W4.heap[it]?=some (.mapIter (some r) 1 #[0] 1):=by subst hW4;simp [hitl]
 have hh4:Below W2.heap.size W2 W4:=by
  subst hW4
  exact ⟨hh.os,hh.tape,hh.output,by simpa using hh.size,fun k hk=>by
   show (W3.heap.setIfInBounds it _)[k]?=_
   rw [Array.getElem?_setIfInBounds_ne (by omega)];exact hh.block k hk⟩
 have hm4:W4.heap[r]?=some (.map (oneEs u v) 1):=(hh4.block r (Nat.lt_of_lt_of_le hrlt hb.size)).trans hm2
 have hW:=HW3.out;have hT0:=T.lt
 have hTit:w_o.heap.size < it:=by rw [hit];exact hT0
 have hitw:w.heap.size≤w_o.heap.size:=Nat.le_of_lt HBS.out
 have hi4l:it < W4.heap.size:=by subst hW4;simpa using hitl
 have hw4:W4.heap.size=it+1:=by subst hW4;rw [hit,← hW];simp
 clear hn1 hW4 hi1 hW hm3 hitl hm2 hh hT0;clear hit HW3;replace o:=o.below hh4;replace Z:=Z.below hh4;replace T:=T.below hh4;replace hb:=bend hb hh4;clear hh4;have hen:=entry_one W4 it r u v hi4 hm4
 go_upto_region 6 with (fail)
 clear hen
 have Hi4:Hid (W4.drew.heap[it]?=some (.mapIter (some r) 1 #[0] 1)):=hi4
 have Hm4:Hid (W4.drew.heap[r]?=some (.map (oneEs u v) 1)):=hm4
 clear hi4 hm4
 have hw4d:W4.drew.heap.size=it+1:=hw4
 replace o:=o.below (Below.refl _ _).drew
 replace Z:=Z.below (Below.refl _ _).drew
 replace T:=T.below (Below.refl _ _).drew
 replace hb:=hb.drew;obtain ⟨t0,t1,t2⟩:=T.all;have zf0:=T.f0;have zf1:=T.f1;have zf2:=T.f2;obtain ⟨z0,z1,z2⟩:=T.all
 go_region_with (first
  | (go_at_call 26;(with_reducible refine (rof_q v u H3.out H4.out H1.out H2.out H0.out _).mono ?_);rintro e w_q ⟨s_q,A_q,n_q,c_q,B_q,m_q,d_q,rfl,q,hh⟩
     (try replace o:=o.below hh);(try replace t:=t.below hh);(try replace T:=T.below hh);(try replace Z:=Z.below hh);replace hb:=bend hb hh;obtain ⟨t0,t1,t2⟩:=T.all;have hh1:=hh;have zf0:=T.f0;have zf1:=T.f1;have zf2:=T.f2;obtain ⟨t0,t1,t2⟩:=T.all)
  | (go_at_call 112;(with_reducible refine (radd_q o.qr q.qr (by decide) (by decide) (.inl (by decide)) (by decide) (by decide)).mono ?_);rintro e w_t ⟨s_t,A_t,n_t,c_t,B_t,m_t,d_t,rfl,t,hh⟩
     (try replace o:=o.below hh);(try replace q:=q.below hh);(try replace T:=T.below hh);(try replace Z:=Z.below hh);replace hb:=bend hb hh;obtain ⟨t0,t1,t2⟩:=T.all;have zf0:=T.f0;have zf1:=T.f1;have zf2:=T.f2;obtain ⟨z0,z1,z2⟩:=T.all))
 all_goals
  have hh5:=hh1.trans (hh.mono hh1.size)
  have hi5:w_t.heap[it]?=some (.mapIter (some r) 1 #[0] 1):=(hh5.block it (by omega)).trans Hi4.out
  have hm5:w_t.heap[r]?=some (.map (oneEs u v) 1):=(hh5.block r (by omega)).trans Hm4.out
  generalize hW5:(((w_t.setCell ⟨w_o.heap.size,0,none⟩ (Value.bool s_t)).setCell ⟨w_o.heap.size,1,none⟩ (Value.slice A_t n_t c_t)).setCell ⟨w_o.heap.size,2,none⟩ (Value.slice B_t m_t d_t))=W5
  have hz3:∀ k,k ≠ w_o.heap.size→W5.heap[k]?=w_t.heap[k]?:=by
   intro k hk
   subst hW5
   rw [Below.heap_setCell _ _ _ _ hk,Below.heap_setCell _ _ _ _ hk,Below.heap_setCell _ _ _ _ hk]
  have T5:B3 W5 w_o.heap.size (Value.bool s_t) (Value.slice A_t n_t c_t) (Value.slice B_t m_t d_t):=by subst hW5;exact T.set3 _ _ _
  have t5:QG W5 s_t A_t n_t c_t B_t m_t d_t (Rat.divInt v u) 3:=by
   subst hW5
   rw [HS.out] at t
   exact t.set3 T _ _ _
  have hb5:Below w.heap.size w W5:=by subst hW5;exact below_set3 hb hitw _ _ _
  have hwlt:w.heap.size < w_o.heap.size:=by have:=HBS.out;omega
  have Z5:B3 W5 w.heap.size (Value.bool false) (Value.slice none 0 0) (Value.slice none 0 0):=(hz3 _ (by omega)).trans Z
  have hi6:W5.heap[it]?=_:=(hz3 it (by omega)).trans hi5
  have hm6:W5.heap[r]?=_:=(hz3 r (by omega)).trans hm5
  clear hz3 hW5 hh5 hi5 hm5 hh hh1 o q T Z hb t
  have hn2:∀ ty,_:=fun ty=>next_one2 W5 it r ty u v hi6 hm6
  clear hi6 hm6;have zf0:=Z5.f0;have zf1:=Z5.f1;have zf2:=Z5.f2;obtain ⟨z0,z1,z2⟩:=Z5.all;obtain ⟨t0,t1,t2⟩:=T5.all
  go_wp2_with fail
  rw [rounds_succ]
  go_wp2_with fail
  have Z2:=Z5.set3 (.bool s_t) (.slice A_t n_t c_t) (.slice B_t m_t d_t)
  obtain ⟨g0,g1,g2⟩:=Z2.all
  refine bodyPost_ret (v:=.agg #[.bool s_t,.slice A_t n_t c_t,.slice B_t m_t d_t]) (by simp [results,Tryz.results76,go_sem,g0,g1,g2]) rfl ?_
  exact ⟨s_t,A_t,n_t,c_t,B_t,m_t,d_t,rfl,t5.set3 Z5 _ _ _,below_set3 hb5 (Nat.le_refl _) _ _ _⟩
theorem und_parts:Tryz.prog.underlying 133=some (.map 2 2):=by kernel_rfl
theorem und_i64:Tryz.prog.underlying 2=some (.int .i64):=by kernel_rfl
theorem run_updF {r:Nat} (u v:Int) (hb:w.heap[r]?=some (.map #[] 0)) :
 (Instr.mapUpdate 133 (.map (some r)) (.int .i64 u) (.int .i64 v)).run Tryz.prog w=.ok () (setMap w r (oneEs u v) 1):=by
 have hk:Go.MapKept.IsKey (.int .i64) (.int .i64 u):=rfl
 have h1:Instr.findNow (.int .i64) (.int .i64 u) (#[]:Array MapEntry).toList 0=some none:=rfl
 simp [Instr.mapUpdate,run_underlying und_parts,Go.MapKept.run_getObj_map hb,Go.MapKept.run_checkKey und_i64 hk,Go.MapKept.run_findKey und_i64 h1,Go.MapKept.run_setObj_map _ hb,Result.andThen,setMap]
theorem small1 {v u:Int} (hu1:1≤u) (hu2:u < 9223372036854775808) (hv1:-9223372036854775808≤v) (hv2:v < 9223372036854775808):(Rat.divInt v u).num.natAbs < B64 ^ 1∧(Rat.divInt v u).den < B64 ^ 1:=by
 have h0:u ≠ 0:=by omega
 rw [div_num h0,div_den h0,Nat.pow_one]
 have h1:=Nat.div_le_self v.natAbs (Nat.gcd v.natAbs u.natAbs)
 have h2:=Nat.div_le_self u.natAbs (Nat.gcd v.natAbs u.natAbs)
 have:B64=18446744073709551616:=rfl
 omega
theorem from_q (v u:Int) (hu1:1≤u) (hu2:u < 9223372036854775808) (hv1:-9223372036854775808≤v) (hv2:v < 9223372036854775808) (w:World) :
 Calls Tryz.prog 40 #[.int .i64 v,.int .i64 u] w (GivesQ w (Rat.divInt v u) 1):=by
 have hs:=small1 hu1 hu2 hv1 hv2;have HS:=Lib.hid hs;have H1:=Lib.hid hu1;have H2:=Lib.hid hu2;have H3:=Lib.hid hv1;have H4:=Lib.hid hv2;clear hs hu1 hu2 hv1 hv2
 have hmm:=@run_makeMap Tryz.prog
 go_enter Tryz.func40,Tryz.ntmps40
 go_upto_region 1 with (fail)
 generalize hW:World.alloc _ _=W
 obtain ⟨hb,Z⟩:=mkbx35_12 hW;clear hW
 have h0:(W.alloc (.map #[] 0)).heap[W.heap.size]?=some (.map #[] 0):=heap_alloc_new W _
 have hi0:=run_updF u v h0
 have h2:Below W.heap.size W (setMap (W.alloc (.map #[] 0)) W.heap.size (oneEs u v) 1):=below_setMap ((Below.refl _ _).alloc (Nat.le_refl _) _) (Nat.le_refl _) _ _
 have hm:(setMap (W.alloc (.map #[] 0)) W.heap.size (oneEs u v) 1).heap[W.heap.size]?=some (.map (oneEs u v) 1):=setMap_at (by simp)
 have HM:=Lib.hid hm;clear h0 hm
 go_wp2_with (first
  | (go_at_call 76;(with_reducible refine (sum_one u v HM.out H1.out H2.out H3.out H4.out).mono ?_);rintro e w_t ⟨s_t,A_t,n_t,c_t,B_t,m_t,d_t,rfl,t,hh⟩
     replace Z:=Z.below h2;replace hb:=bend hb h2;(try replace Z:=Z.below hh);replace hb:=bend hb hh;have zf0:=Z.f0;have zf1:=Z.f1;have zf2:=Z.f2;obtain ⟨z0,z1,z2⟩:=Z.all))
 replace t:=t.tight HS.out.1 HS.out.2
 have Z2:=Z.set3 (.bool s_t) (.slice A_t n_t c_t) (.slice B_t m_t d_t)
 obtain ⟨g0,g1,g2⟩:=Z2.all
 refine bodyPost_ret (v:=.agg #[.bool s_t,.slice A_t n_t c_t,.slice B_t m_t d_t]) (by simp [results,Tryz.results40,go_sem,g0,g1,g2]) rfl ?_
 exact ⟨s_t,A_t,n_t,c_t,B_t,m_t,d_t,rfl,t.set3 Z _ _ _,below_set3 hb (by omega) _ _ _⟩
end
section
open Go Go.RowKit
def fromQ (v u:Int):Rat:=if u < 1 then Rat.divInt 0 1 else Rat.divInt v u
end
end Go.Proofs.YtfpaeophfcoohaaGreat
