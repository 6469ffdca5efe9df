/- AreaHalves: part 13. -/
import Derived.Test.YtlogpjeoapeojaaGreatKAreaHalves11
import Derived.Test.YtlogpjeoapeojaaGreatKAreaHalves12
set_option linter.unusedVariables false
set_option maxRecDepth 100000
set_option maxHeartbeats 16000000
variable {w:Go.World}
namespace Go.Proofs.YtlogpjeoapeojaaGreat
section
open Go Go.RowKit
def StaysIn (L:List BoxOp) (F:Value→World→Prop):Prop:=(∀ x w w',F x w→Below w.heap.size w w'→F x w')∧∀ p ∈ L,∀ x w w' g cs,F x w→BoxAt p.T w g cs→Only g w w'→F x w'
theorem Stays.inn {F:Value→World→Prop} (h:Stays F) (L:List BoxOp):StaysIn L F:=⟨h.1,fun p _ x w w' g cs=>h.2 p.T x w w' g cs⟩
section
variable {P:Program} {ops:Array Oper} {Q:Exit→Act→World→Prop}
theorem wp_region_flowsT {id:Nat} {a:Act} {w0:World} (l:List Nat) (L:List BoxOp) (F:Nat→Value→World→Prop)
 (hm:P.follows .mixedOrders=true) (hb:backB ops=true) (hl:ops.toList.filterMap (·.dst)=l) (hn:l.Nodup)
 (hL:∀ p ∈ L,BoxIn P ops p) (hT:∀ p ∈ L,∀ q ∈ L,p.tA=q.tA→p=q) (hS:∀ p ∈ L,∀ q ∈ L,p.is=q.is→p=q)
 (hone:∀ (i:Nat) (o:Oper),ops[i]?=some o→o.dst=none→∃ p ∈ L,p.is=i) (hst:∀ t,StaysIn L (F t))
 (hval:∀ (i:Nat) (o:Oper) (t:Nat) (v:Nat→Value) (w':World),ops[i]?=some o→(∀ p ∈ L,t ≠ p.tA)→o.dst=some t→Below w0.heap.size w0 w' →
  (∀ e ∈ o.after,Region.binds .any e=true→∀ (oe:Oper) (te:Nat),ops[e.on]?=some oe→oe.dst=some te→(∀ p ∈ L,te ≠ p.tA)→F te (v te) w') →
  wpOp P ops Q i (fun a'' w''=>∃ x,a''=(putAll a l v).put (some t) x∧Below w'.heap.size w' w''∧F t x w'') (putAll a l v) w')
 (hstore:∀ p ∈ L,∀ (os:Oper) (v:Nat→Value) (w':World) (g:Nat),ops[p.is]?=some os→Below w0.heap.size w0 w'→v p.tA=.pointer (some ⟨g,0,none⟩)→BoxAt p.T w' g p.zs →
  (∀ e ∈ os.after,Region.binds .any e=true→∀ (oe:Oper) (te:Nat),ops[e.on]?=some oe→oe.dst=some te→(∀ p ∈ L,te ≠ p.tA)→F te (v te) w') →
  os.wp P (putAll a l v) w' (fun a'' w''=>a''=putAll a l v∧Only g w' w''∧∃ cs',BoxAt p.T w'' g cs'∧p.Fst cs' w'') Q)
 (hend:∀ (v:Nat→Value) (w':World),Below w0.heap.size w0 w'→(∀ (i:Nat) (o:Oper) (t:Nat),ops[i]?=some o→o.dst=some t→(∀ p ∈ L,t ≠ p.tA)→F t (v t) w') →
  (∀ p ∈ L,∃ g cs,v p.tA=.pointer (some ⟨g,0,none⟩)∧w0.heap.size≤g∧BoxAt p.T w' g cs∧p.Fst cs w')→(∀ p ∈ L,∀ q ∈ L,p.tA ≠ q.tA→v p.tA ≠ v q.tA)→Q .normal (putAll a l v) w') :
 (Code.region id ops true).wp P Q a w0:=by
 have lt_of:∀ {i:Nat} {o:Oper},ops[i]?=some o→i < ops.size:=fun {i o} h=>by
  rcases Nat.lt_or_ge i ops.size with k | k
  · exact k
  · rw [Array.getElem?_eq_none k] at h;cases h
 have hmem:∀ {i:Nat} {o:Oper} {t:Nat},ops[i]?=some o→o.dst=some t→t ∈ l:=fun {i o t} h d=>by
  rw [← hl];exact List.mem_filterMap.2 ⟨o,List.mem_of_getElem? (by simpa using h),d⟩
 have hinj:∀ {i j:Nat} {oi oj:Oper} {t:Nat},ops[i]?=some oi→ops[j]?=some oj→oi.dst=some t→oj.dst=some t→i=j:=fun {i j oi oj t} h1 h2 d1 d2 =>
  once_of (l:=ops.toList) (by rw [hl];exact hn) (by simpa using h1) (by simpa using h2) d1 d2
 -- a filling operation is no making one,and none that tells a value
 have his:∀ p ∈ L,∀ (i:Nat) (o:Oper) (t:Nat),ops[i]?=some o→o.dst=some t→p.is ≠ i:=by
  intro p hp i o t ho ht q
  obtain ⟨os,h1,h2,_⟩:=(hL p hp).fill
  subst q
  rw [h1] at ho
  cases ho
  rw [h2] at ht
  cases ht
 refine wp_region_inv l (JFlows ops w0 L F) hm hb ?_ ?_ ?_ ?_
 · refine ⟨(Below.refl _ _).drew,?_,?_,?_,?_⟩
   · intro i o t _ _ _ h;exact absurd (show false=true from h) (by decide)
   · intro p _ h;exact absurd (show false=true from h) (by decide)
   · intro p _ h;exact absurd (show false=true from h) (by decide)
   · intro p _ q _ _ h;exact absurd (show false=true from h) (by decide)
 · intro D D' v w hD h
   have ea:∀ p ∈ L,D p.ia=D' p.ia:=fun p hp=>by obtain ⟨oa,h1,_⟩:=(hL p hp).alloc;exact hD _ (lt_of h1)
   have es:∀ p ∈ L,D p.is=D' p.is:=fun p hp=>by obtain ⟨os,h1,_⟩:=(hL p hp).fill;exact hD _ (lt_of h1)
   refine ⟨h.below,fun i o t hi ht hne hd=>h.vals i o t hi ht hne (by rw [hD i (lt_of hi)];exact hd),?_,?_,?_⟩
   · intro p hp;rw [← ea p hp,← es p hp];exact h.box p hp
   · intro p hp;rw [← ea p hp,← es p hp];exact h.after p hp
   · intro p hp q hq;rw [← ea p hp,← ea q hq];exact h.apart p hp q hq
 · intro i o D v w' ho hDi hall J
   cases hd:o.dst with
   | none =>
     obtain ⟨p,hp,rfl⟩:=hone i o ho hd
     obtain ⟨os,h1,h2,hgs,e,he,hbd,hon⟩:=(hL p hp).fill
     rw [h1] at ho
     cases ho
     have hDa:D p.ia=true:=by rw [← hon];exact hall e he hbd
     obtain ⟨g,cs,p1,p2,p3,_,pz⟩:=J.box p hp hDa
     obtain rfl:=pz hDi
     refine wpOp_plain' h1 hgs ?_
     refine Oper.wp_mono ?_ (hstore p hp _ v w' g h1 J.below p1 p3 (fun e he hb' oe te h1 h2 h3=>J.vals e.on oe te h1 h2 h3 (hall e he hb')))
     rintro a'' w'' ⟨rfl,ho2,cs',hB,hF⟩
     have nia:∀ q ∈ L,q.ia ≠ p.is:=fun q hq k=>by
      obtain ⟨oa,k1,k2,_⟩:=(hL q hq).alloc
      exact his p hp q.ia oa q.tA k1 k2 k.symm
     refine ⟨v,rfl,Below.only J.below p2 J.below.size ho2,?_,?_,?_,?_⟩
     · intro j oj t hj ht hne hd2
       have hji:j ≠ p.is:=fun q=>his p hp j oj t hj ht q.symm
       rw [upd_ne _ _ hji] at hd2
       exact (hst t).2 p hp _ _ _ _ _ (J.vals j oj t hj ht hne hd2) p3 ho2
     · intro q hq hDq
       rw [upd_ne _ _ (nia q hq)] at hDq
       by_cases hpq:q.tA=p.tA
       · obtain rfl:=hT q hq p hp hpq
         exact ⟨g,cs',p1,p2,hB,fun _=>hF,fun k=>by rw [upd_same] at k;cases k⟩
       · obtain ⟨g2,cs2,r1,r2,r3,r4,r5⟩:=J.box q hq hDq
         have hgg:g2 ≠ g:=fun k=>J.apart q hq p hp hpq hDq hDa (by rw [r1,p1,k])
         have hss:q.is ≠ p.is:=fun k=>hpq (by rw [hS q hq p hp k])
         refine ⟨g2,cs2,r1,r2,⟨(ho2.block g2 r3.lt hgg).trans r3.at_,r3.free⟩,fun k=>?_,fun k=>?_⟩
         · rw [upd_ne _ _ hss] at k
           exact (hL q hq).stays2 _ _ _ _ _ _ (r4 k) p3 ho2
         · rw [upd_ne _ _ hss] at k
           exact r5 k
     · intro q hq k
       rw [upd_ne _ _ (nia q hq)]
       by_cases hss:q.is=p.is
       · obtain rfl:=hS q hq p hp hss
         exact hDa
       · rw [upd_ne _ _ hss] at k
         exact J.after q hq k
     · intro q hq r hr hne k1 k2
       rw [upd_ne _ _ (nia q hq)] at k1
       rw [upd_ne _ _ (nia r hr)] at k2
       exact J.apart q hq r hr hne k1 k2
   | some t =>
     have nis:∀ q ∈ L,q.is ≠ i:=fun q hq=>his q hq i o t ho hd
     by_cases hA:∃ p ∈ L,t=p.tA
     · obtain ⟨p,hp,rfl⟩:=hA
       obtain ⟨oa,h1,h2,hga,halloc⟩:=(hL p hp).alloc
       have hii:i=p.ia:=hinj ho h1 hd h2
       subst hii
       rw [h1] at ho
       cases ho
       refine wpOp_plain' h1 hga ?_
       unfold Oper.wp
       rw [halloc,Oper.upon_value,h2]
       have hbl:=(Below.refl w'.heap.size w').alloc (Nat.le_refl _) (.cells p.zs p.T)
       have hnew:∀ q ∈ L,q.tA ≠ p.tA→q.ia ≠ p.ia:=fun q hq k r=>by
        obtain ⟨ob,k1,k2,_⟩:=(hL q hq).alloc
        rw [r,h1] at k1
        cases k1
        rw [h2] at k2
        exact k (Option.some.inj k2).symm
       refine ⟨_,putAll_put _ _ _ _ _ hn (hmem h1 h2),J.below.trans (hbl.mono J.below.size),?_,?_,?_,?_⟩
       · intro j oj t hj ht hne hd2
         have htp:=hne p hp
         have hji:j ≠ p.ia:=fun q=>htp (by subst q;rw [h1] at hj;cases hj;rw [h2] at ht;cases ht;rfl)
         rw [upd_ne _ _ hji] at hd2;rw [upd_ne _ _ htp]
         exact (hst t).1 _ _ _ (J.vals j oj t hj ht hne hd2) hbl
       · intro q hq hDq
         by_cases hqp:q.tA=p.tA
         · obtain rfl:=hT q hq p hp hqp
           refine ⟨w'.heap.size,q.zs,upd_same _ _ _,J.below.size,⟨heap_alloc_new _ _,(hL q hq).free⟩,fun h=>?_,fun _=>rfl⟩
           rw [upd_ne _ _ (nis q hq)] at h
           have:=J.after q hq h
           rw [hDi] at this
           cases this
         · rw [upd_ne _ _ (hnew q hq hqp)] at hDq
           obtain ⟨g,cs,r1,r2,r3,r4,r5⟩:=J.box q hq hDq
           refine ⟨g,cs,by rw [upd_ne _ _ hqp];exact r1,r2,r3.below hbl,fun h=>?_,fun h=>?_⟩
           · rw [upd_ne _ _ (nis q hq)] at h
             exact (hL q hq).stays _ _ _ (r4 h) hbl
           · rw [upd_ne _ _ (nis q hq)] at h
             exact r5 h
       · intro q hq h
         rw [upd_ne _ _ (nis q hq)] at h
         by_cases hqp:q.tA=p.tA
         · obtain rfl:=hT q hq p hp hqp
           rw [upd_same]
         · rw [upd_ne _ _ (hnew q hq hqp)]
           exact J.after q hq h
       · intro q hq r hr hne k1 k2
         by_cases hqp:q.tA=p.tA
         · obtain rfl:=hT q hq p hp hqp
           have hrp:r.tA ≠ q.tA:=Ne.symm hne
           rw [upd_ne _ _ (hnew r hr hrp)] at k2
           obtain ⟨g,cs,r1,_,r3,_⟩:=J.box r hr k2
           rw [upd_same,upd_ne _ _ hrp,r1]
           intro k
           simp only [Value.pointer.injEq,Option.some.injEq,Addr.mk.injEq] at k
           have:=r3.lt
           omega
         · rw [upd_ne _ _ (hnew q hq hqp)] at k1
           by_cases hrp:r.tA=p.tA
           · obtain rfl:=hT r hr p hp hrp
             obtain ⟨g,cs,r1,_,r3,_⟩:=J.box q hq k1
             rw [upd_same,upd_ne _ _ hqp,r1]
             intro k
             simp only [Value.pointer.injEq,Option.some.injEq,Addr.mk.injEq] at k
             have:=r3.lt
             omega
           · rw [upd_ne _ _ (hnew r hr hrp)] at k2
             rw [upd_ne _ _ hqp,upd_ne _ _ hrp]
             exact J.apart q hq r hr hne k1 k2
     · have htA:∀ p ∈ L,t ≠ p.tA:=fun p hp k=>hA ⟨p,hp,k⟩
       have nia:∀ q ∈ L,q.ia ≠ i:=fun q hq k=>by
        obtain ⟨oa,k1,k2,_⟩:=(hL q hq).alloc
        rw [k,ho] at k1
        cases k1
        rw [hd] at k2
        cases k2
        exact htA q hq rfl
       refine wpOp_mono ?_ (hval i o t v w' ho htA hd J.below (fun e he hb' oe te h1 h2 h3=>J.vals e.on oe te h1 h2 h3 (hall e he hb')))
       rintro a'' w'' ⟨x,rfl,hbl,hF⟩
       refine ⟨_,putAll_put _ _ _ _ _ hn (hmem ho hd),J.below.trans (hbl.mono J.below.size),?_,?_,?_,?_⟩
       · intro j oj t' hj ht hne hd2
         by_cases hji:j=i
         · subst hji
           rw [ho] at hj
           cases hj
           rw [hd] at ht
           cases ht
           rw [upd_same]
           exact hF
         · rw [upd_ne _ _ hji] at hd2
           have htt:t' ≠ t:=fun q=>hji (by subst q;exact hinj hj ho ht hd)
           rw [upd_ne _ _ htt]
           exact (hst t').1 _ _ _ (J.vals j oj t' hj ht hne hd2) hbl
       · intro q hq hDq
         rw [upd_ne _ _ (nia q hq)] at hDq
         obtain ⟨g,cs,r1,r2,r3,r4,r5⟩:=J.box q hq hDq
         refine ⟨g,cs,by rw [upd_ne _ _ (Ne.symm (htA q hq))];exact r1,r2,r3.below hbl,fun h=>?_,fun h=>?_⟩
         · rw [upd_ne _ _ (nis q hq)] at h
           exact (hL q hq).stays _ _ _ (r4 h) hbl
         · rw [upd_ne _ _ (nis q hq)] at h
           exact r5 h
       · intro q hq h
         rw [upd_ne _ _ (nis q hq)] at h
         rw [upd_ne _ _ (nia q hq)]
         exact J.after q hq h
       · intro q hq r hr hne k1 k2
         rw [upd_ne _ _ (nia q hq)] at k1
         rw [upd_ne _ _ (nia r hr)] at k2
         rw [upd_ne _ _ (Ne.symm (htA q hq)),upd_ne _ _ (Ne.symm (htA r hr))]
         exact J.apart q hq r hr hne k1 k2
 · intro D v w' hall J
   refine hend v w' J.below (fun i o t hi ht hne=>J.vals i o t hi ht hne (hall i (lt_of hi))) ?_ ?_
   · intro p hp
     obtain ⟨oa,h1,_⟩:=(hL p hp).alloc
     obtain ⟨os,h2,_⟩:=(hL p hp).fill
     obtain ⟨g,cs,r1,r2,r3,r4,_⟩:=J.box p hp (hall _ (lt_of h1))
     exact ⟨g,cs,r1,r2,r3,r4 (hall _ (lt_of h2))⟩
   · intro p hp q hq hne
     obtain ⟨oa,h1,_⟩:=(hL p hp).alloc
     obtain ⟨ob,h2,_⟩:=(hL q hq).alloc
     exact J.apart p hp q hq hne (hall _ (lt_of h1)) (hall _ (lt_of h2))
end
end
section
open Go Go.RowKit
structure CV where
 p:PV
 q:QV
def CV.cells (x:CV):List Value:=x.p.cells ++ x.q.cells
def cvs (L:List CV):List Value:=L.flatMap CV.cells
theorem cvs_append (L M:List CV):cvs (L ++ M)=cvs L ++ cvs M:=List.flatMap_append
theorem qvs_append (L M:List QV):qvs (L ++ M)=qvs L ++ qvs M:=List.flatMap_append
theorem rows_length {α:Type} {f:α→List Value} {m:Nat} (hf:∀ x,(f x).length=m) (L:List α):(L.flatMap f).length=L.length*m:=by
 induction L with
 | nil=>simp
 | cons p L ih=>rw [List.flatMap_cons,List.length_append,ih,hf,List.length_cons,Nat.succ_mul];omega
theorem rows_get {α:Type} {f:α→List Value} {m:Nat} (hf:∀ x,(f x).length=m) {L:List α} {i:Nat} {p:α} (h:L[i]?=some p) {j:Nat} (hj:j < m):(L.flatMap f)[i*m+j]?=(f p)[j]?:=by
 induction L generalizing i with
 | nil=>cases h
 | cons q L ih =>
   rw [List.flatMap_cons]
   match i with
   | 0 =>
     obtain rfl:q=p:=by simpa using h
     rw [Nat.zero_mul,Nat.zero_add,List.getElem?_append_left (by rw [hf];exact hj)]
   | i+1 =>
     rw [Nat.succ_mul,List.getElem?_append_right (by rw [hf];omega),hf,show i*m+m+j - m=i*m+j by omega]
     exact ih h
theorem rows_set {α:Type} {f:α→List Value} {m:Nat} (hf:∀ x,(f x).length=m) {L:List α} {i:Nat} (hi:i < L.length) (p:α) (j:Nat) :
 ((L.set i p).flatMap f)[j]?=if i*m≤j∧j < i*m+m then (f p)[j - i*m]? else (L.flatMap f)[j]?:=by
 rcases Nat.eq_zero_or_pos m with hm | hm
 · have h0:∀ M:List α,(M.flatMap f)[j]?=none:=fun M=>List.getElem?_eq_none (by rw [rows_length hf,hm];omega)
   rw [h0,h0,hm,if_neg (by omega)]
 by_cases hj:j < L.length*m
 · obtain ⟨a,b,hb,rfl⟩:∃ a b,b < m∧j=a*m+b:=⟨j / m,j % m,Nat.mod_lt _ hm,by rw [Nat.mul_comm];exact (Nat.div_add_mod j m).symm⟩
   have ha:a < L.length:=Nat.lt_of_mul_lt_mul_right (Nat.lt_of_le_of_lt (Nat.le_add_right _ _) hj)
   rw [rows_get hf (List.getElem?_eq_getElem (show a < (L.set i p).length by rw [List.length_set];exact ha)) hb]
   by_cases e:i=a
   · subst e
     rw [if_pos ⟨by omega,by omega⟩,List.getElem_set_self,Nat.add_sub_cancel_left]
   · have h1 : ¬ (i * m ≤ a * m + b ∧ a * m + b < i * m + m) := fun ⟨q1, q2⟩ => by
       rcases Nat.lt_or_ge i a with q | q
       · have:=Nat.mul_le_mul_right m (show i+1≤a from q);rw [Nat.succ_mul] at this;omega
       · have:=Nat.mul_le_mul_right m (show a+1≤i by omega);rw [Nat.succ_mul] at this;omega
     rw [if_neg h1,rows_get hf (List.getElem?_eq_getElem ha) hb,List.getElem_set_ne e]
 · have h0:∀ M:List α,M.length=L.length→(M.flatMap f)[j]?=none:=fun M hM=>List.getElem?_eq_none (by rw [rows_length hf,hM];omega)
   have h1:¬ (i*m≤j∧j < i*m+m):=fun q=>by
    have:=Nat.mul_le_mul_right m (show i+1≤L.length from hi);rw [Nat.succ_mul] at this;omega
   rw [if_neg h1,h0 _ List.length_set,h0 _ rfl]
theorem pvc_len (p:PV):p.cells.length=6:=rfl
theorem qvc_len (p:QV):p.cells.length=3:=rfl
theorem cvc_len (p:CV):p.cells.length=9:=rfl
def SV (w:World) (A:Option Addr) (vs:List Value):Prop:=0 < vs.length→∃ g o,A=some ⟨g,o,none⟩∧g < w.heap.size∧∀ j u,vs[j]?=some u→w.cell? ⟨g,o+j,none⟩=some u
theorem SV.nil (w:World) (A:Option Addr):SV w A []:=fun h=>absurd h (by simp)
theorem SV.below {w w':World} {A:Option Addr} {vs:List Value} (h:SV w A vs) (hb:Below w.heap.size w w'):SV w' A vs:=fun hn=>by
 obtain ⟨g,o,e,h1,h2⟩:=h hn
 exact ⟨g,o,e,Nat.lt_of_lt_of_le h1 hb.size,fun j u hu=>(hb.cell (p:=⟨g,o+j,none⟩) h1).trans (h2 j u hu)⟩
def E6x (w:World) (g o:Nat) (p:PV):Prop:=g < w.heap.size∧w.cell? ⟨g,o,none⟩=some (.bool p.s)∧w.cell? ⟨g,o+1,none⟩=some (.slice p.A p.n p.c)∧w.cell? ⟨g,o+2,none⟩=some (.slice p.B p.m p.d)∧w.cell? ⟨g,o+3,none⟩=some (.bool p.t)∧w.cell? ⟨g,o+4,none⟩=some (.slice p.E p.i p.e)∧w.cell? ⟨g,o+5,none⟩=some (.slice p.F p.j p.f)
section
variable {w w':World} {g o k:Nat} {p:PV}
theorem E6x.lt (h:E6x w g o p):g < w.heap.size:=h.1
theorem E6x.c0 (h:E6x w g o p):w.cell? ⟨g,o,none⟩=some (.bool p.s):=h.2.1
theorem E6x.c1 (h:E6x w g o p):w.cell? ⟨g,o+1,none⟩=some (.slice p.A p.n p.c):=h.2.2.1
theorem E6x.c2 (h:E6x w g o p):w.cell? ⟨g,o+2,none⟩=some (.slice p.B p.m p.d):=h.2.2.2.1
theorem E6x.c3 (h:E6x w g o p):w.cell? ⟨g,o+3,none⟩=some (.bool p.t):=h.2.2.2.2.1
theorem E6x.c4 (h:E6x w g o p):w.cell? ⟨g,o+4,none⟩=some (.slice p.E p.i p.e):=h.2.2.2.2.2.1
theorem E6x.c5 (h:E6x w g o p):w.cell? ⟨g,o+5,none⟩=some (.slice p.F p.j p.f):=h.2.2.2.2.2.2
theorem E6x.all (h:E6x w g o p):w.cell? ⟨g,o,none⟩=some (.bool p.s)∧w.cell? ⟨g,o+1,none⟩=some (.slice p.A p.n p.c)∧w.cell? ⟨g,o+2,none⟩=some (.slice p.B p.m p.d)∧w.cell? ⟨g,o+3,none⟩=some (.bool p.t)∧w.cell? ⟨g,o+4,none⟩=some (.slice p.E p.i p.e)∧w.cell? ⟨g,o+5,none⟩=some (.slice p.F p.j p.f):=⟨h.c0,h.c1,h.c2,h.c3,h.c4,h.c5⟩
theorem E6x.below (h:E6x w g o p) (hb:Below w.heap.size w w'):E6x w' g o p:=⟨Nat.lt_of_lt_of_le h.1 hb.size,(hb.cell (p:=⟨g,o,none⟩) h.1).trans h.c0,(hb.cell (p:=⟨g,o+1,none⟩) h.1).trans h.c1,(hb.cell (p:=⟨g,o+2,none⟩) h.1).trans h.c2,(hb.cell (p:=⟨g,o+3,none⟩) h.1).trans h.c3,(hb.cell (p:=⟨g,o+4,none⟩) h.1).trans h.c4,(hb.cell (p:=⟨g,o+5,none⟩) h.1).trans h.c5⟩
end
theorem SV.pt {A:Option Addr} {L:List PV} (h:SV w A (pvs L)) {i:Nat} {p:PV} (hi:L[i]?=some p):∃ g o,(∀ (n c:Nat) (w':World),i < n→(Instr.indexAt 22 (.slice A n c) (.int .i64 (i:Int))).run Tryz.prog w'=.ok (.pointer (some ⟨g,o,none⟩)) w')∧E6x w g o p∧∃ o0,A=some ⟨g,o0,none⟩:=by
 have hl:=(List.getElem?_eq_some_iff.1 hi).1
 obtain ⟨g,o,e,h1,h2⟩:=h (by rw [show (pvs L).length=L.length*6 from rows_length pvc_len L];omega)
 have key:∀ j,j < 6→∀ u,p.cells[j]?=some u→w.cell? ⟨g,o+i*6+j,none⟩=some u:=fun j hj u hu=>by
  rw [Nat.add_assoc];exact h2 _ u ((rows_get pvc_len hi hj).trans hu)
 refine ⟨g,o+i*6,fun n c w' hn=>?_,⟨h1,key 0 (by decide) _ rfl,key 1 (by decide) _ rfl,key 2 (by decide) _ rfl,key 3 (by decide) _ rfl,key 4 (by decide) _ rfl,key 5 (by decide) _ rfl⟩,o,e⟩
 subst e
 have ha:∀ j,(⟨g,o,none⟩:Addr).add j=⟨g,o+j,none⟩:=fun j=>by unfold Addr.add;split <;> simp_all
 obtain ⟨i0,hi0,hz,hs,hby⟩:=info_parts (show (Tryz.prog.info? 29).map (fun i=>(i.zero,i.size,i.bytes))=some (some (.agg #[.bool false,.slice none 0 0,.slice none 0 0,.bool false,.slice none 0 0,.slice none 0 0]),6,112) by kernel_rfl)
 have k1:(0:Int)≤(i:Int):=by omega
 have k2:(i:Int) < (n:Int):=by omega
 simp [Instr.indexAt,asIntOf,run_underlying Tryz.underlying22,k1,sizeOf,typeInfo,hi0,hs,ha]
 exact fun e=>absurd hn (by omega)
def E3x (w:World) (g o:Nat) (p:QV):Prop:=g < w.heap.size∧w.cell? ⟨g,o,none⟩=some (.bool p.s)∧w.cell? ⟨g,o+1,none⟩=some (.slice p.A p.n p.c)∧w.cell? ⟨g,o+2,none⟩=some (.slice p.B p.m p.d)
section
variable {w w':World} {g o k:Nat} {p:QV}
theorem E3x.c0 (h:E3x w g o p):w.cell? ⟨g,o,none⟩=some (.bool p.s):=h.2.1
theorem E3x.c1 (h:E3x w g o p):w.cell? ⟨g,o+1,none⟩=some (.slice p.A p.n p.c):=h.2.2.1
theorem E3x.c2 (h:E3x w g o p):w.cell? ⟨g,o+2,none⟩=some (.slice p.B p.m p.d):=h.2.2.2
theorem E3x.all (h:E3x w g o p):w.cell? ⟨g,o,none⟩=some (.bool p.s)∧w.cell? ⟨g,o+1,none⟩=some (.slice p.A p.n p.c)∧w.cell? ⟨g,o+2,none⟩=some (.slice p.B p.m p.d):=⟨h.c0,h.c1,h.c2⟩
theorem E3x.below (h:E3x w g o p) (hb:Below w.heap.size w w'):E3x w' g o p:=⟨Nat.lt_of_lt_of_le h.1 hb.size,(hb.cell (p:=⟨g,o,none⟩) h.1).trans h.c0,(hb.cell (p:=⟨g,o+1,none⟩) h.1).trans h.c1,(hb.cell (p:=⟨g,o+2,none⟩) h.1).trans h.c2⟩
end
theorem SV.qt {A:Option Addr} {L:List QV} (h:SV w A (qvs L)) {i:Nat} {p:QV} (hi:L[i]?=some p):∃ g o,(∀ (n c:Nat) (w':World),i < n→(Instr.indexAt 80 (.slice A n c) (.int .i64 (i:Int))).run Tryz.prog w'=.ok (.pointer (some ⟨g,o,none⟩)) w')∧E3x w g o p∧∃ o0,A=some ⟨g,o0,none⟩:=by
 have hl:=(List.getElem?_eq_some_iff.1 hi).1
 obtain ⟨g,o,e,h1,h2⟩:=h (by rw [show (qvs L).length=L.length*3 from rows_length qvc_len L];omega)
 have key:∀ j,j < 3→∀ u,p.cells[j]?=some u→w.cell? ⟨g,o+i*3+j,none⟩=some u:=fun j hj u hu=>by
  rw [Nat.add_assoc];exact h2 _ u ((rows_get qvc_len hi hj).trans hu)
 refine ⟨g,o+i*3,fun n c w' hn=>?_,⟨h1,key 0 (by decide) _ rfl,key 1 (by decide) _ rfl,key 2 (by decide) _ rfl⟩,o,e⟩
 subst e
 have ha:∀ j,(⟨g,o,none⟩:Addr).add j=⟨g,o+j,none⟩:=fun j=>by unfold Addr.add;split <;> simp_all
 obtain ⟨i0,hi0,hz,hs,hby⟩:=info_parts (show (Tryz.prog.info? 27).map (fun i=>(i.zero,i.size,i.bytes))=some (some (.agg #[.bool false,.slice none 0 0,.slice none 0 0]),3,56) by kernel_rfl)
 have k1:(0:Int)≤(i:Int):=by omega
 have k2:(i:Int) < (n:Int):=by omega
 simp [Instr.indexAt,asIntOf,run_underlying Tryz.underlying80,k1,sizeOf,typeInfo,hi0,hs,ha]
 exact fun e=>absurd hn (by omega)
def E9x (w:World) (g o:Nat) (p:CV):Prop:=g < w.heap.size∧w.cell? ⟨g,o,none⟩=some (.bool p.p.s)∧w.cell? ⟨g,o+1,none⟩=some (.slice p.p.A p.p.n p.p.c)∧w.cell? ⟨g,o+2,none⟩=some (.slice p.p.B p.p.m p.p.d)∧w.cell? ⟨g,o+3,none⟩=some (.bool p.p.t)∧w.cell? ⟨g,o+4,none⟩=some (.slice p.p.E p.p.i p.p.e)∧w.cell? ⟨g,o+5,none⟩=some (.slice p.p.F p.p.j p.p.f)∧w.cell? ⟨g,o+6,none⟩=some (.bool p.q.s)∧w.cell? ⟨g,o+7,none⟩=some (.slice p.q.A p.q.n p.q.c)∧w.cell? ⟨g,o+8,none⟩=some (.slice p.q.B p.q.m p.q.d)
section
variable {w w':World} {g o k:Nat} {p:CV}
theorem E9x.c0 (h:E9x w g o p):w.cell? ⟨g,o,none⟩=some (.bool p.p.s):=h.2.1
theorem E9x.c1 (h:E9x w g o p):w.cell? ⟨g,o+1,none⟩=some (.slice p.p.A p.p.n p.p.c):=h.2.2.1
theorem E9x.c2 (h:E9x w g o p):w.cell? ⟨g,o+2,none⟩=some (.slice p.p.B p.p.m p.p.d):=h.2.2.2.1
theorem E9x.c3 (h:E9x w g o p):w.cell? ⟨g,o+3,none⟩=some (.bool p.p.t):=h.2.2.2.2.1
theorem E9x.c4 (h:E9x w g o p):w.cell? ⟨g,o+4,none⟩=some (.slice p.p.E p.p.i p.p.e):=h.2.2.2.2.2.1
theorem E9x.c5 (h:E9x w g o p):w.cell? ⟨g,o+5,none⟩=some (.slice p.p.F p.p.j p.p.f):=h.2.2.2.2.2.2.1
theorem E9x.c6 (h:E9x w g o p):w.cell? ⟨g,o+6,none⟩=some (.bool p.q.s):=h.2.2.2.2.2.2.2.1
theorem E9x.c7 (h:E9x w g o p):w.cell? ⟨g,o+7,none⟩=some (.slice p.q.A p.q.n p.q.c):=h.2.2.2.2.2.2.2.2.1
theorem E9x.c8 (h:E9x w g o p):w.cell? ⟨g,o+8,none⟩=some (.slice p.q.B p.q.m p.q.d):=h.2.2.2.2.2.2.2.2.2
theorem E9x.all (h:E9x w g o p):w.cell? ⟨g,o,none⟩=some (.bool p.p.s)∧w.cell? ⟨g,o+1,none⟩=some (.slice p.p.A p.p.n p.p.c)∧w.cell? ⟨g,o+2,none⟩=some (.slice p.p.B p.p.m p.p.d)∧w.cell? ⟨g,o+3,none⟩=some (.bool p.p.t)∧w.cell? ⟨g,o+4,none⟩=some (.slice p.p.E p.p.i p.p.e)∧w.cell? ⟨g,o+5,none⟩=some (.slice p.p.F p.p.j p.p.f)∧w.cell? ⟨g,o+6,none⟩=some (.bool p.q.s)∧w.cell? ⟨g,o+7,none⟩=some (.slice p.q.A p.q.n p.q.c)∧w.cell? ⟨g,o+8,none⟩=some (.slice p.q.B p.q.m p.q.d):=⟨h.c0,h.c1,h.c2,h.c3,h.c4,h.c5,h.c6,h.c7,h.c8⟩
theorem E9x.below (h:E9x w g o p) (hb:Below w.heap.size w w'):E9x w' g o p:=⟨Nat.lt_of_lt_of_le h.1 hb.size,(hb.cell (p:=⟨g,o,none⟩) h.1).trans h.c0,(hb.cell (p:=⟨g,o+1,none⟩) h.1).trans h.c1,(hb.cell (p:=⟨g,o+2,none⟩) h.1).trans h.c2,(hb.cell (p:=⟨g,o+3,none⟩) h.1).trans h.c3,(hb.cell (p:=⟨g,o+4,none⟩) h.1).trans h.c4,(hb.cell (p:=⟨g,o+5,none⟩) h.1).trans h.c5,(hb.cell (p:=⟨g,o+6,none⟩) h.1).trans h.c6,(hb.cell (p:=⟨g,o+7,none⟩) h.1).trans h.c7,(hb.cell (p:=⟨g,o+8,none⟩) h.1).trans h.c8⟩
end
theorem SV.ct {A:Option Addr} {L:List CV} (h:SV w A (cvs L)) {i:Nat} {p:CV} (hi:L[i]?=some p):∃ g o,(∀ (n c:Nat) (w':World),i < n→(Instr.indexAt 89 (.slice A n c) (.int .i64 (i:Int))).run Tryz.prog w'=.ok (.pointer (some ⟨g,o,none⟩)) w')∧E9x w g o p∧∃ o0,A=some ⟨g,o0,none⟩:=by
 have hl:=(List.getElem?_eq_some_iff.1 hi).1
 obtain ⟨g,o,e,h1,h2⟩:=h (by rw [show (cvs L).length=L.length*9 from rows_length cvc_len L];omega)
 have key:∀ j,j < 9→∀ u,p.cells[j]?=some u→w.cell? ⟨g,o+i*9+j,none⟩=some u:=fun j hj u hu=>by
  rw [Nat.add_assoc];exact h2 _ u ((rows_get cvc_len hi hj).trans hu)
 refine ⟨g,o+i*9,fun n c w' hn=>?_,⟨h1,key 0 (by decide) _ rfl,key 1 (by decide) _ rfl,key 2 (by decide) _ rfl,key 3 (by decide) _ rfl,key 4 (by decide) _ rfl,key 5 (by decide) _ rfl,key 6 (by decide) _ rfl,key 7 (by decide) _ rfl,key 8 (by decide) _ rfl⟩,o,e⟩
 subst e
 have ha:∀ j,(⟨g,o,none⟩:Addr).add j=⟨g,o+j,none⟩:=fun j=>by unfold Addr.add;split <;> simp_all
 obtain ⟨i0,hi0,hz,hs,hby⟩:=info_parts (show (Tryz.prog.info? 92).map (fun i=>(i.zero,i.size,i.bytes))=some (some (.agg #[.bool false,.slice none 0 0,.slice none 0 0,.bool false,.slice none 0 0,.slice none 0 0,.bool false,.slice none 0 0,.slice none 0 0]),9,168) by kernel_rfl)
 have k1:(0:Int)≤(i:Int):=by omega
 have k2:(i:Int) < (n:Int):=by omega
 simp [Instr.indexAt,asIntOf,run_underlying Tryz.underlying89,k1,sizeOf,typeInfo,hi0,hs,ha]
 exact fun e=>absurd hn (by omega)
def RowB (T:TypeId) (w:World) (g:Nat) (vs:List Value):Prop:=∃ cs,BoxAt T w g cs∧vs.length≤cs.size∧∀ (j:Nat) (u:Value),vs[j]?=some u→cs[j]?=some u
section
variable {T:TypeId} {w w':World} {g k:Nat} {vs:List Value} {cs:Array Value}
theorem RowB.below (h:RowB T w g vs) (hb:Below w.heap.size w w'):RowB T w' g vs:=by
 obtain ⟨cs,h1,h2⟩:=h;exact ⟨cs,h1.below hb,h2⟩
theorem RowB.rest (h:RowB T w g vs) (hne:g ≠ k) (ho:Only k w w'):RowB T w' g vs:=by
 obtain ⟨cs,h1,h2⟩:=h;exact ⟨cs,⟨(ho.block g h1.lt hne).trans h1.at_,h1.free⟩,h2⟩
theorem RowB.sv (h:RowB T w g vs):SV w (some ⟨g,0,none⟩) vs:=fun _=>by
 obtain ⟨cs,h1,h2,h3⟩:=h
 refine ⟨g,0,rfl,h1.lt,fun j u hu=>?_⟩
 rw [Nat.zero_add,cell_of_row w g j _ _ (0,0) h1.at_];exact h3 j u hu
theorem BoxAt.sv (h:BoxAt T w g vs.toArray):SV w (some ⟨g,0,none⟩) vs:=fun _=>⟨g,0,rfl,h.lt,fun j u hu=>by
 rw [Nat.zero_add,cell_of_row w g j _ _ (0,0) h.at_];simpa using hu⟩
theorem BoxAt.ne {T':TypeId} {cs':Array Value} (h:BoxAt T w g cs) (h':BoxAt T' w k cs') (hne:T ≠ T' ∨ cs.size ≠ cs'.size):g ≠ k:=by
 rintro rfl
 have e:=h.at_.symm.trans h'.at_
 simp only [Option.some.injEq,Obj.cells.injEq] at e
 rcases hne with q | q
 · exact q e.2.1
 · exact q (by rw [e.1])
end
def SNr (T:TypeId) (base n:Nat) (vs:List Value) (w:World) (A:Option Addr):Prop:=0 < n→∃ g,A=some ⟨g,0,none⟩∧base≤g∧RowB T w g vs
def VSB (T:TypeId) (base n n1:Nat) (vs:List Value) (x:Value) (w:World):Prop:=∃ A c,x=.slice A n1 c∧SNr T base n vs w A
def Made (T:TypeId) (zs:Array Value) (base:Nat) (w:World) (g:Nat):Prop:=base≤g∧BoxAt T w g zs
def VMK (T:TypeId) (zs:Array Value) (n base:Nat) (x:Value) (w:World):Prop:=∃ g,x=.slice (some ⟨g,0,none⟩) n n∧Made T zs base w g
theorem SNr.below {T:TypeId} {base n:Nat} {vs:List Value} {w w':World} {A:Option Addr} (h:SNr T base n vs w A) (hb:Below w.heap.size w w'):SNr T base n vs w' A:=fun hn=>by
 obtain ⟨g,e,h1,h2⟩:=h hn;exact ⟨g,e,h1,h2.below hb⟩
theorem SNr.sv {T:TypeId} {base n:Nat} {vs:List Value} {A:Option Addr} (h:SNr T base n vs w A) (hn:0 < n):SV w A vs:=by
 obtain ⟨g,rfl,_,h2⟩:=h hn;exact h2.sv
theorem stays_sb (T:TypeId) (base n n1:Nat) (vs:List Value) (L:List BoxOp) (hL:∀ p ∈ L,p.T ≠ T):StaysIn L (VSB T base n n1 vs):=by
 refine ⟨fun x w w' ⟨A,c,e,h⟩ hb=>⟨A,c,e,h.below hb⟩,fun p hp x w w' k cs ⟨A,c,e,h⟩ hB ho=>⟨A,c,e,fun hn=>?_⟩⟩
 obtain ⟨g,e2,h1,h2⟩:=h hn
 obtain ⟨cs2,h3,_⟩:=id h2
 exact ⟨g,e2,h1,h2.rest (BoxAt.ne h3 hB (.inl (hL p hp).symm)) ho⟩
theorem stays_mk (T:TypeId) (zs:Array Value) (n base:Nat) (L:List BoxOp) (hL:∀ p ∈ L,p.T ≠ T):StaysIn L (VMK T zs n base):=by
 refine ⟨fun x w w' ⟨g,e,h1,h2⟩ hb=>⟨g,e,h1,h2.below hb⟩,fun p hp x w w' k cs ⟨g,e,h1,h2⟩ hB ho=>⟨g,e,h1,⟨(ho.block g h2.lt (BoxAt.ne h2 hB (.inl (hL p hp).symm))).trans h2.at_,h2.free⟩⟩⟩
theorem made_rows {α:Type} {f:α→List Value} {m:Nat} (hf:∀ x,(f x).length=m) (z:α) (n:Nat):madeCells (f z).toArray (n*m)=((List.replicate n z).flatMap f).toArray:=by
 rcases Nat.eq_zero_or_pos m with hm | hm
 · subst hm
   apply Array.ext' ;simp only
   have h1:(List.replicate n z).flatMap f=[]:=List.eq_nil_of_length_eq_zero (by rw [rows_length hf,Nat.mul_zero])
   rw [h1]
   simp [madeCells]
 apply Array.ext
 · rw [size_madeCells,List.size_toArray,rows_length hf,List.length_replicate]
 · intro j h1 h2
   rw [size_madeCells] at h1
   obtain ⟨a,b,hb,rfl⟩:∃ a b,b < m∧j=a*m+b:=⟨j / m,j % m,Nat.mod_lt _ hm,by rw [Nat.mul_comm];exact (Nat.div_add_mod j m).symm⟩
   have ha:a < n:=Nat.lt_of_mul_lt_mul_right (Nat.lt_of_le_of_lt (Nat.le_add_right _ _) h1)
   have e:=rows_get hf (L:=List.replicate n z) (i:=a) (p:=z) (by rw [List.getElem?_replicate,if_pos ha]) hb
   rw [List.getElem?_eq_getElem (by simpa using h2)] at e
   have hb2:b < (f z).length:=by rw [hf];exact hb
   rw [List.getElem?_eq_getElem hb2] at e
   have e2:((List.replicate n z).flatMap f).toArray[a*m+b]=(f z)[b]:=by rw [List.getElem_toArray];exact Option.some.inj e
   rw [e2]
   simp only [madeCells,Array.getElem_map,Array.getElem_range,List.size_toArray,hf]
   rw [show (a*m+b) % m=b by rw [Nat.add_comm,Nat.add_mul_mod_self_right,Nat.mod_eq_of_lt hb]]
   simp [hb2]
def zpv:PV:=PV.mk false none 0 0 none 0 0 false none 0 0 none 0 0
def zqv:QV:=QV.mk false none 0 0 none 0 0
def zcv:CV:=⟨zpv,zqv⟩
theorem qvs_free (L:List QV):∀ u ∈ qvs L,∀ (k:IntKind) (x:Int),u ≠ .int k x:=by
 intro u hu k x
 obtain ⟨p,_,hp⟩:=List.mem_flatMap.1 hu
 simp only [QV.cells,List.mem_cons,List.not_mem_nil,or_false] at hp
 rcases hp with rfl | rfl | rfl <;> exact fun e=>by cases e
theorem cvs_free (L:List CV):∀ u ∈ cvs L,∀ (k:IntKind) (x:Int),u ≠ .int k x:=by
 intro u hu k x
 obtain ⟨p,_,hp⟩:=List.mem_flatMap.1 hu
 rcases List.mem_append.1 hp with hp | hp
 · exact pvs_free [p.p] u (by rw [pvs_cons,pvs_nil,List.append_nil];exact hp) k x
 · exact qvs_free [p.q] u (by rw [qvs_cons];exact List.mem_append_left _ hp) k x
theorem arr_free {vs:List Value} (h:∀ u ∈ vs,∀ (k:IntKind) (x:Int),u ≠ .int k x) (i:Nat) (k:IntKind) (x:Int):vs.toArray[i]? ≠ some (Value.int k x):=fun e=>by
 rw [List.getElem?_toArray] at e
 exact h _ (List.mem_of_getElem? e) k x rfl
theorem run_make_p {e1:Operand→Value} {d1:Option Tmp} {y1:Nat} {pos:String} {af:Array Edge} {x1 x2:Operand} {n:Nat} (h:e1 x1=.int .i64 (n:Int)) (h2:e1 x2=.int .i64 (n:Int)) (hn:n≤100000) :
 (execOp e1 ⟨d1,.makeSlice 22 x1 x2,y1,pos,af,none⟩).run Tryz.prog w=.ok (.value (.slice (some ⟨w.heap.size,0,none⟩) n n)) (w.alloc (.cells (pvs (List.replicate n zpv)).toArray 29)):=by
 obtain ⟨i0,hi,hz,hs,hby⟩:=info_parts (show (Tryz.prog.info? 29).map (fun i=>(i.zero,i.size,i.bytes))=some (some (.agg #[.bool false,.slice none 0 0,.slice none 0 0,.bool false,.slice none 0 0,.slice none 0 0]),6,112) by kernel_rfl)
 have hr:=run_make (P:=Tryz.prog) w 22 29 i0 _ Tryz.underlying22 hi hz .i64 .i64 (n:Int) (n:Int) (by omega) (Int.le_refl _) (by rw [hby];omega) (by omega)
 rw [Int.toNat_natCast,hs] at hr
 have e:madeCells (Value.agg #[.bool false,.slice none 0 0,.slice none 0 0,.bool false,.slice none 0 0,.slice none 0 0]).cells (n*6)=(pvs (List.replicate n zpv)).toArray:=made_rows pvc_len zpv n
 rw [e] at hr
 go_simp
theorem made_p (w:World) (n:Nat) (base:Nat) (hb:base≤w.heap.size):Made 29 (pvs (List.replicate n zpv)).toArray base (w.alloc (.cells (pvs (List.replicate n zpv)).toArray 29)) w.heap.size:=⟨hb,heap_alloc_new w _,arr_free (pvs_free _)⟩
theorem run_make_q {e1:Operand→Value} {d1:Option Tmp} {y1:Nat} {pos:String} {af:Array Edge} {x1 x2:Operand} {n:Nat} (h:e1 x1=.int .i64 (n:Int)) (h2:e1 x2=.int .i64 (n:Int)) (hn:n≤100000) :
 (execOp e1 ⟨d1,.makeSlice 80 x1 x2,y1,pos,af,none⟩).run Tryz.prog w=.ok (.value (.slice (some ⟨w.heap.size,0,none⟩) n n)) (w.alloc (.cells (qvs (List.replicate n zqv)).toArray 27)):=by
 obtain ⟨i0,hi,hz,hs,hby⟩:=info_parts (show (Tryz.prog.info? 27).map (fun i=>(i.zero,i.size,i.bytes))=some (some (.agg #[.bool false,.slice none 0 0,.slice none 0 0]),3,56) by kernel_rfl)
 have hr:=run_make (P:=Tryz.prog) w 80 27 i0 _ Tryz.underlying80 hi hz .i64 .i64 (n:Int) (n:Int) (by omega) (Int.le_refl _) (by rw [hby];omega) (by omega)
 rw [Int.toNat_natCast,hs] at hr
 have e:madeCells (Value.agg #[.bool false,.slice none 0 0,.slice none 0 0]).cells (n*3)=(qvs (List.replicate n zqv)).toArray:=made_rows qvc_len zqv n
 rw [e] at hr
 go_simp
theorem made_q (w:World) (n:Nat) (base:Nat) (hb:base≤w.heap.size):Made 27 (qvs (List.replicate n zqv)).toArray base (w.alloc (.cells (qvs (List.replicate n zqv)).toArray 27)) w.heap.size:=⟨hb,heap_alloc_new w _,arr_free (qvs_free _)⟩
theorem run_make_c {e1:Operand→Value} {d1:Option Tmp} {y1:Nat} {pos:String} {af:Array Edge} {x1 x2:Operand} {n:Nat} (h:e1 x1=.int .i64 (n:Int)) (h2:e1 x2=.int .i64 (n:Int)) (hn:n≤100000) :
 (execOp e1 ⟨d1,.makeSlice 89 x1 x2,y1,pos,af,none⟩).run Tryz.prog w=.ok (.value (.slice (some ⟨w.heap.size,0,none⟩) n n)) (w.alloc (.cells (cvs (List.replicate n zcv)).toArray 92)):=by
 obtain ⟨i0,hi,hz,hs,hby⟩:=info_parts (show (Tryz.prog.info? 92).map (fun i=>(i.zero,i.size,i.bytes))=some (some (.agg #[.bool false,.slice none 0 0,.slice none 0 0,.bool false,.slice none 0 0,.slice none 0 0,.bool false,.slice none 0 0,.slice none 0 0]),9,168) by kernel_rfl)
 have hr:=run_make (P:=Tryz.prog) w 89 92 i0 _ Tryz.underlying89 hi hz .i64 .i64 (n:Int) (n:Int) (by omega) (Int.le_refl _) (by rw [hby];omega) (by omega)
 rw [Int.toNat_natCast,hs] at hr
 have e:madeCells (Value.agg #[.bool false,.slice none 0 0,.slice none 0 0,.bool false,.slice none 0 0,.slice none 0 0,.bool false,.slice none 0 0,.slice none 0 0]).cells (n*9)=(cvs (List.replicate n zcv)).toArray:=made_rows cvc_len zcv n
 rw [e] at hr
 go_simp
theorem made_c (w:World) (n:Nat) (base:Nat) (hb:base≤w.heap.size):Made 92 (cvs (List.replicate n zcv)).toArray base (w.alloc (.cells (cvs (List.replicate n zcv)).toArray 92)) w.heap.size:=⟨hb,heap_alloc_new w _,arr_free (cvs_free _)⟩
theorem run_len_p {e1:Operand→Value} {d1:Option Tmp} {y1:Nat} {pos:String} {af:Array Edge} {x1:Operand} {A:Option Addr} {n c:Nat} (h:e1 x1=.slice A n c) :
 (execOp e1 ⟨d1,.call ⟨.builtin Builtin.len,#[x1],#[22]⟩,y1,pos,af,none⟩).run Tryz.prog w=.ok (.value (.int .i64 (n:Int))) w:=by
 go_simp
theorem run_len_c {e1:Operand→Value} {d1:Option Tmp} {y1:Nat} {pos:String} {af:Array Edge} {x1:Operand} {A:Option Addr} {n c:Nat} (h:e1 x1=.slice A n c) :
 (execOp e1 ⟨d1,.call ⟨.builtin Builtin.len,#[x1],#[89]⟩,y1,pos,af,none⟩).run Tryz.prog w=.ok (.value (.int .i64 (n:Int))) w:=by
 go_simp
theorem run_min1 {e1:Operand→Value} {d1:Option Tmp} {y1:Nat} {pos:String} {af:Array Edge} {x1:Operand} {n:Nat} (hn:1≤n) (h:e1 x1=.int .i64 (n:Int)) (hc:e1 (.const (Value.int IntKind.i64 1))=.int .i64 1) :
 (execOp e1 ⟨d1,.call ⟨.builtin Builtin.min,#[.const (Value.int IntKind.i64 1),x1],#[3,3]⟩,y1,pos,af,none⟩).run Tryz.prog w=.ok (.value (.int .i64 1)) w:=by
 go_simp
 omega
theorem run_min0 {e1:Operand→Value} {d1:Option Tmp} {y1:Nat} {pos:String} {af:Array Edge} {x1:Operand} (h:e1 x1=.int .i64 0) (hc:e1 (.const (Value.int IntKind.i64 1))=.int .i64 1) :
 (execOp e1 ⟨d1,.call ⟨.builtin Builtin.min,#[.const (Value.int IntKind.i64 1),x1],#[3,3]⟩,y1,pos,af,none⟩).run Tryz.prog w=.ok (.value (.int .i64 0)) w:=by
 go_simp
 rfl
end
section
open Go Go.RowKit
theorem zero_mem (z:Array Value) (hz:0 < z.size) (hf:∀ u ∈ z,∀ (k:IntKind) (x:Int),u ≠ .int k x) (n:Nat):∀ u ∈ Builtin.zeroCells z n,∀ (k:IntKind) (x:Int),u ≠ .int k x:=by
 intro u hu k x e
 subst e
 simp only [Builtin.zeroCells,Array.mem_map,Array.mem_range] at hu
 obtain ⟨i,_,hi⟩:=hu
 have hlt:=Nat.mod_lt i hz
 rw [getElem!_pos z (i % z.size) hlt] at hi
 exact hf _ (Array.getElem_mem hlt) k x hi
theorem run_cut3_p {e1:Operand→Value} {d1:Option Tmp} {y1:Nat} {pos:String} {af:Array Edge} {x1 x2 x3:Operand} {A:Option Addr} {n c:Nat} (h:e1 x1=.slice A n c) (h2:e1 x2=.int .i64 (n:Int)) (h3:e1 x3=.int .i64 (n:Int)) (hn:n≤c) :
 (execOp e1 ⟨d1,.slice 22 x1 none (some x2) (some x3),y1,pos,af,none⟩).run Tryz.prog w=.ok (.value (.slice A n n)) w:=by
 cases A <;> go_simp
theorem run_cut2_p {e1:Operand→Value} {d1:Option Tmp} {y1:Nat} {pos:String} {af:Array Edge} {x1 x2:Operand} {A:Option Addr} {m n c:Nat} {M:Int} (hM:M=(m:Int)) (hm:m≤c) (h:e1 x1=.slice A n c) (h2:e1 x2=.int .i64 M) :
 (execOp e1 ⟨d1,.slice 22 x1 none (some x2) none,y1,pos,af,none⟩).run Tryz.prog w=.ok (.value (.slice A m c)) w:=by
 subst hM
 cases A <;> go_simp
theorem run_app0_p {e1:Operand→Value} {d1:Option Tmp} {y1:Nat} {pos:String} {af:Array Edge} {x1 x2:Operand} {A B:Option Addr} {c:Nat} (h:e1 x1=.slice A 0 0) (h2:e1 x2=.slice B 0 c) :
 (execOp e1 ⟨d1,.call ⟨.builtin Builtin.append,#[x1,x2],#[22,22]⟩,y1,pos,af,none⟩).run Tryz.prog w=.ok (.value (.slice A 0 0)) w:=by
 obtain ⟨i0,hi,hz,hs,hby⟩:=info_parts (show (Tryz.prog.info? 29).map (fun i=>(i.zero,i.size,i.bytes))=some (some (.agg #[.bool false,.slice none 0 0,.slice none 0 0,.bool false,.slice none 0 0,.slice none 0 0]),6,112) by kernel_rfl)
 have hu:=Tryz.underlying22
 cases A <;> cases B <;> (simp [h,h2,Builtin.append_,run_underlying hu,sizeOf,typeInfo,hi,Builtin.lenOf,Builtin.firstCells,go_sem];try rfl)
theorem run_ring_p {e1:Operand→Value} {x1 x2:Operand} {g o n c:Nat} {L:List PV} (h:e1 x1=.slice (some ⟨g,o,none⟩) n n) (h2:e1 x2=.slice (some ⟨g,o,none⟩) 1 c) (hL:SV w (some ⟨g,o,none⟩) (pvs L)) (hn:L.length=n) (h0:0 < n) (hm:n≤100000) :
 ∃ c' w2,(∀ (d1:Option Tmp) (y1:Nat) (pos:String) (af:Array Edge),(execOp e1 ⟨d1,.call ⟨.builtin Builtin.append,#[x1,x2],#[22,22]⟩,y1,pos,af,none⟩).run Tryz.prog w=.ok (.value (.slice (some ⟨w.heap.size,0,none⟩) (n+1) c')) w2)∧Below w.heap.size w w2∧RowB 29 w2 w.heap.size (pvs (L ++ L.take 1)):=by
 obtain ⟨i0,hi,hz,hs,hby⟩:=info_parts (show (Tryz.prog.info? 29).map (fun i=>(i.zero,i.size,i.bytes))=some (some (.agg #[.bool false,.slice none 0 0,.slice none 0 0,.bool false,.slice none 0 0,.slice none 0 0]),6,112) by kernel_rfl)
 have hu:=Tryz.underlying22
 have hl:(pvs L).length=n*6:=by rw [show (pvs L).length=L.length*6 from rows_length pvc_len L,hn]
 have hl1:(pvs (L.take 1)).length=1*6:=by rw [show (pvs (L.take 1)).length=(L.take 1).length*6 from rows_length pvc_len _,List.length_take,hn,Nat.min_eq_left (by omega)]
 have hc:∀ j v,(pvs L)[j]?=some v→w.cell? ((⟨g,o,none⟩:Addr).add j)=some v:=fun j v hv=>by
  obtain ⟨g2,o2,e,_,hx⟩:=hL (by rw [hl];omega)
  cases e
  rw [add_at];exact hx j v hv
 have hc1:∀ j v,(pvs (L.take 1))[j]?=some v→w.cell? ((⟨g,o,none⟩:Addr).add j)=some v:=fun j v hv=>by
  refine hc j v ?_
  rw [← List.take_append_drop 1 L,pvs_append,List.getElem?_append_left (by have:=(List.getElem?_eq_some_iff.1 hv).1;exact this)]
  exact hv
 have hfit:Builtin.nextslicecap (n+1) n*i0.bytes≤281474976710656:=growslice_fits (by omega) (by rw [hby];omega)
 have hr:=fun y1=>run_append_grow (P:=Tryz.prog) w 22 y1 29 i0 _ hu hi hz ⟨g,o,none⟩ n n (pvs L) (by rw [hs];exact hl) hc ⟨g,o,none⟩ 1 c (pvs (L.take 1)) (by rw [hs];exact hl1) hc1 (by omega) (by omega) hfit
 generalize hX:((pvs L).toArray ++ (pvs (L.take 1)).toArray ++ Builtin.zeroCells (Value.agg #[.bool false,.slice none 0 0,.slice none 0 0,.bool false,.slice none 0 0,.slice none 0 0]).cells (grownCap w (n+1) n 29 - (n+1)))=X at hr
 have he:∀ (d1:Option Tmp) (y1:Nat) (pos:String) (af:Array Edge),(execOp e1 ⟨d1,.call ⟨.builtin Builtin.append,#[x1,x2],#[22,22]⟩,y1,pos,af,none⟩).run Tryz.prog w=.ok (.value (.slice (some ⟨w.heap.size,0,none⟩) (n+1) (grownCap w (n+1) n 29))) (w.drew.alloc (.cells X 29)):=by
  intro d1 y1 pos af
  unfold execOp
  simp only [resolve,invoke,builtin,Sem.run_bind,Sem.run_pure,Result.andThen_ok,List.map_toArray,List.map_cons,List.map_nil,h,h2,hr]
 refine ⟨_,_,he,(Below.refl _ _).drew.alloc (Nat.le_refl _) _,X,⟨heap_alloc_new w.drew _,?_⟩,?_,?_⟩
 · intro i k' x e
   have hm:∀ u ∈ X,∀ (k:IntKind) (x:Int),u ≠ .int k x:=fun u hu=>by
    rw [← hX] at hu
    rcases Array.mem_append.1 hu with q | q
    · rcases Array.mem_append.1 q with q | q
      · exact pvs_free L u (by simpa using q)
      · exact pvs_free (L.take 1) u (by simpa using q)
    · exact zero_mem _ (by decide) (fun u hu=>pvs_free [zpv] u (Array.mem_toList_iff.2 hu)) _ u q
   exact hm _ (Array.mem_of_getElem? e) k' x rfl
 · rw [← hX,pvs_append,List.length_append,Array.size_append,Array.size_append,List.size_toArray,List.size_toArray];omega
 · intro j u hu
   rw [pvs_append] at hu
   rw [← hX,Array.getElem?_append_left (by have:=(List.getElem?_eq_some_iff.1 hu).1;simpa using this)]
   simpa using hu
theorem run_cut3_c {e1:Operand→Value} {d1:Option Tmp} {y1:Nat} {pos:String} {af:Array Edge} {x1 x2 x3:Operand} {A:Option Addr} {n c:Nat} (h:e1 x1=.slice A n c) (h2:e1 x2=.int .i64 (n:Int)) (h3:e1 x3=.int .i64 (n:Int)) (hn:n≤c) :
 (execOp e1 ⟨d1,.slice 89 x1 none (some x2) (some x3),y1,pos,af,none⟩).run Tryz.prog w=.ok (.value (.slice A n n)) w:=by
 cases A <;> go_simp
theorem run_cut2_c {e1:Operand→Value} {d1:Option Tmp} {y1:Nat} {pos:String} {af:Array Edge} {x1 x2:Operand} {A:Option Addr} {m n c:Nat} {M:Int} (hM:M=(m:Int)) (hm:m≤c) (h:e1 x1=.slice A n c) (h2:e1 x2=.int .i64 M) :
 (execOp e1 ⟨d1,.slice 89 x1 none (some x2) none,y1,pos,af,none⟩).run Tryz.prog w=.ok (.value (.slice A m c)) w:=by
 subst hM
 cases A <;> go_simp
theorem run_app0_c {e1:Operand→Value} {d1:Option Tmp} {y1:Nat} {pos:String} {af:Array Edge} {x1 x2:Operand} {A B:Option Addr} {c:Nat} (h:e1 x1=.slice A 0 0) (h2:e1 x2=.slice B 0 c) :
 (execOp e1 ⟨d1,.call ⟨.builtin Builtin.append,#[x1,x2],#[89,89]⟩,y1,pos,af,none⟩).run Tryz.prog w=.ok (.value (.slice A 0 0)) w:=by
 obtain ⟨i0,hi,hz,hs,hby⟩:=info_parts (show (Tryz.prog.info? 92).map (fun i=>(i.zero,i.size,i.bytes))=some (some (.agg #[.bool false,.slice none 0 0,.slice none 0 0,.bool false,.slice none 0 0,.slice none 0 0,.bool false,.slice none 0 0,.slice none 0 0]),9,168) by kernel_rfl)
 have hu:=Tryz.underlying89
 cases A <;> cases B <;> (simp [h,h2,Builtin.append_,run_underlying hu,sizeOf,typeInfo,hi,Builtin.lenOf,Builtin.firstCells,go_sem];try rfl)
theorem run_ring_c {e1:Operand→Value} {x1 x2:Operand} {g o n c:Nat} {L:List CV} (h:e1 x1=.slice (some ⟨g,o,none⟩) n n) (h2:e1 x2=.slice (some ⟨g,o,none⟩) 1 c) (hL:SV w (some ⟨g,o,none⟩) (cvs L)) (hn:L.length=n) (h0:0 < n) (hm:n≤100000) :
 ∃ c' w2,(∀ (d1:Option Tmp) (y1:Nat) (pos:String) (af:Array Edge),(execOp e1 ⟨d1,.call ⟨.builtin Builtin.append,#[x1,x2],#[89,89]⟩,y1,pos,af,none⟩).run Tryz.prog w=.ok (.value (.slice (some ⟨w.heap.size,0,none⟩) (n+1) c')) w2)∧Below w.heap.size w w2∧RowB 92 w2 w.heap.size (cvs (L ++ L.take 1)):=by
 obtain ⟨i0,hi,hz,hs,hby⟩:=info_parts (show (Tryz.prog.info? 92).map (fun i=>(i.zero,i.size,i.bytes))=some (some (.agg #[.bool false,.slice none 0 0,.slice none 0 0,.bool false,.slice none 0 0,.slice none 0 0,.bool false,.slice none 0 0,.slice none 0 0]),9,168) by kernel_rfl)
 have hu:=Tryz.underlying89
 have hl:(cvs L).length=n*9:=by rw [show (cvs L).length=L.length*9 from rows_length cvc_len L,hn]
 have hl1:(cvs (L.take 1)).length=1*9:=by rw [show (cvs (L.take 1)).length=(L.take 1).length*9 from rows_length cvc_len _,List.length_take,hn,Nat.min_eq_left (by omega)]
 have hc:∀ j v,(cvs L)[j]?=some v→w.cell? ((⟨g,o,none⟩:Addr).add j)=some v:=fun j v hv=>by
  obtain ⟨g2,o2,e,_,hx⟩:=hL (by rw [hl];omega)
  cases e
  rw [add_at];exact hx j v hv
 have hc1:∀ j v,(cvs (L.take 1))[j]?=some v→w.cell? ((⟨g,o,none⟩:Addr).add j)=some v:=fun j v hv=>by
  refine hc j v ?_
  rw [← List.take_append_drop 1 L,cvs_append,List.getElem?_append_left (by have:=(List.getElem?_eq_some_iff.1 hv).1;exact this)]
  exact hv
 have hfit:Builtin.nextslicecap (n+1) n*i0.bytes≤281474976710656:=growslice_fits (by omega) (by rw [hby];omega)
 have hr:=fun y1=>run_append_grow (P:=Tryz.prog) w 89 y1 92 i0 _ hu hi hz ⟨g,o,none⟩ n n (cvs L) (by rw [hs];exact hl) hc ⟨g,o,none⟩ 1 c (cvs (L.take 1)) (by rw [hs];exact hl1) hc1 (by omega) (by omega) hfit
 generalize hX:((cvs L).toArray ++ (cvs (L.take 1)).toArray ++ Builtin.zeroCells (Value.agg #[.bool false,.slice none 0 0,.slice none 0 0,.bool false,.slice none 0 0,.slice none 0 0,.bool false,.slice none 0 0,.slice none 0 0]).cells (grownCap w (n+1) n 92 - (n+1)))=X at hr
 have he:∀ (d1:Option Tmp) (y1:Nat) (pos:String) (af:Array Edge),(execOp e1 ⟨d1,.call ⟨.builtin Builtin.append,#[x1,x2],#[89,89]⟩,y1,pos,af,none⟩).run Tryz.prog w=.ok (.value (.slice (some ⟨w.heap.size,0,none⟩) (n+1) (grownCap w (n+1) n 92))) (w.drew.alloc (.cells X 92)):=by
  intro d1 y1 pos af
  unfold execOp
  simp only [resolve,invoke,builtin,Sem.run_bind,Sem.run_pure,Result.andThen_ok,List.map_toArray,List.map_cons,List.map_nil,h,h2,hr]
 refine ⟨_,_,he,(Below.refl _ _).drew.alloc (Nat.le_refl _) _,X,⟨heap_alloc_new w.drew _,?_⟩,?_,?_⟩
 · intro i k' x e
   have hm:∀ u ∈ X,∀ (k:IntKind) (x:Int),u ≠ .int k x:=fun u hu=>by
    rw [← hX] at hu
    rcases Array.mem_append.1 hu with q | q
    · rcases Array.mem_append.1 q with q | q
      · exact cvs_free L u (by simpa using q)
      · exact cvs_free (L.take 1) u (by simpa using q)
    · exact zero_mem _ (by decide) (fun u hu=>cvs_free [zcv] u (Array.mem_toList_iff.2 hu)) _ u q
   exact hm _ (Array.mem_of_getElem? e) k' x rfl
 · rw [← hX,cvs_append,List.length_append,Array.size_append,Array.size_append,List.size_toArray,List.size_toArray];omega
 · intro j u hu
   rw [cvs_append] at hu
   rw [← hX,Array.getElem?_append_left (by have:=(List.getElem?_eq_some_iff.1 hu).1;simpa using this)]
   simpa using hu
abbrev L_closedp:List Nat:=[3,4,5,6,7,8,9,10,11,12,13,14,2]
def o0_closedp:Oper:=⟨some 3,.move (.tmp 0),22, "area.go:53",#[],none⟩
def o1_closedp:Oper:=⟨some 4,.move (.tmp 0),22, "area.go:53",#[],none⟩
def o2_closedp:Oper:=⟨some 5,.call ⟨.builtin Builtin.len,#[.tmp 4],#[22]⟩,3, "area.go:53",#[⟨1,.data⟩],none⟩
def o3_closedp:Oper:=⟨some 6,.move (.tmp 0),22, "area.go:53",#[],none⟩
def o4_closedp:Oper:=⟨some 7,.call ⟨.builtin Builtin.len,#[.tmp 6],#[22]⟩,3, "area.go:53",#[⟨3,.data⟩],none⟩
def o5_closedp:Oper:=⟨some 8,.slice 22 (.tmp 3) none (some (.tmp 5)) (some (.tmp 7)),22, "area.go:53",#[⟨0,.data⟩,⟨2,.data⟩,⟨4,.data⟩],none⟩
def o6_closedp:Oper:=⟨some 9,.move (.tmp 0),22, "area.go:53",#[],none⟩
def o7_closedp:Oper:=⟨some 10,.move (.tmp 0),22, "area.go:53",#[],none⟩
def o8_closedp:Oper:=⟨some 11,.call ⟨.builtin Builtin.len,#[.tmp 10],#[22]⟩,3, "area.go:53",#[⟨7,.data⟩],none⟩
def o9_closedp:Oper:=⟨some 12,.call ⟨.builtin Builtin.min,#[.const (Value.int IntKind.i64 1),.tmp 11],#[3,3]⟩,3, "area.go:53",#[⟨8,.data⟩],none⟩
def o10_closedp:Oper:=⟨some 13,.slice 22 (.tmp 9) none (some (.tmp 12)) none,22, "area.go:53",#[⟨6,.data⟩,⟨9,.data⟩],none⟩
def o11_closedp:Oper:=⟨some 14,.call ⟨.builtin Builtin.append,#[.tmp 8,.tmp 13],#[22,22]⟩,22, "area.go:53",#[⟨5,.data⟩,⟨10,.data⟩],none⟩
def o12_closedp:Oper:=⟨some 2,.assign (.tmp 14),22, "area.go:53",#[⟨11,.data⟩,⟨11,.chain⟩,⟨0,.phase⟩,⟨1,.phase⟩,⟨2,.phase⟩,⟨3,.phase⟩,⟨4,.phase⟩,⟨5,.phase⟩,⟨6,.phase⟩,⟨7,.phase⟩,⟨8,.phase⟩,⟨9,.phase⟩,⟨10,.phase⟩,⟨11,.phase⟩],none⟩
def F_closedp (g:Nat) (o:Nat) (n:Nat) (c:Nat) (base:Nat) (L:List PV) (sl:Nat):Value→World→Prop :=
 match sl with
 | 3=>fun x _=>x=Value.slice (some ⟨g,o,none⟩) n c
 | 4=>fun x _=>x=Value.slice (some ⟨g,o,none⟩) n c
 | 5=>fun x _=>x=Value.int .i64 (n:Int)
 | 6=>fun x _=>x=Value.slice (some ⟨g,o,none⟩) n c
 | 7=>fun x _=>x=Value.int .i64 (n:Int)
 | 8=>fun x _=>x=Value.slice (some ⟨g,o,none⟩) n n
 | 9=>fun x _=>x=Value.slice (some ⟨g,o,none⟩) n c
 | 10=>fun x _=>x=Value.slice (some ⟨g,o,none⟩) n c
 | 11=>fun x _=>x=Value.int .i64 (n:Int)
 | 12=>fun x _=>x=Value.int .i64 1
 | 13=>fun x _=>x=Value.slice (some ⟨g,o,none⟩) 1 c
 | 14=>VSB (29) (base) (n) (n+1) (pvs (L ++ L.take 1))
 | 2=>VSB (29) (base) (n) (n+1) (pvs (L ++ L.take 1))
 | _=>fun _ _=>True
theorem closedp_region {id:Nat} {ac:Act} {Q:Exit→Act→World→Prop} {g o n c base:Nat} {L:List PV}
 (hsz:14 < ac.tmps.size) (e0:ac.eval (.tmp 0)=Value.slice (some ⟨g,o,none⟩) n c) (hL:SV w (some ⟨g,o,none⟩) (pvs L)) (hn:L.length=n) (h0:0 < n) (hm:n≤100000) (hnc:n≤c) (hbs:base≤w.heap.size)
 (hend:∀ (V:Nat→Value) (w':World),(VSB (29) (base) (n) (n+1) (pvs (L ++ L.take 1))) (V 2) w'→Below w.heap.size w w'→Q .normal (putAll ac [3,4,5,6,7,8,9,10,11,12,13,14,2] V) w') :
 (Code.region id #[o0_closedp,o1_closedp,o2_closedp,o3_closedp,o4_closedp,o5_closedp,o6_closedp,o7_closedp,o8_closedp,o9_closedp,o10_closedp,o11_closedp,o12_closedp] true).wp Tryz.prog Q ac w:=by
 have hnd:L_closedp.Nodup:=by decide
 have G:∀ (sv:Nat→Value) (t:Nat),t ∈ L_closedp→t≤14→(putAll ac L_closedp sv).eval (.tmp t)=sv t:=fun sv t ht h=>eval_putAll_mem (t:=t) L_closedp ac hnd ht (Nat.lt_of_le_of_lt h hsz)
 have E0:∀ sv:Nat→Value,(putAll ac L_closedp sv).eval (.tmp 0)=Value.slice (some ⟨g,o,none⟩) n c:=fun sv=>(eval_putAll_not (v:=sv) L_closedp ac (show 0 ∉ _ by decide)).trans e0
 have NE:∀ t:Nat,(True)→∀ p ∈ ([]:List BoxOp),t ≠ p.tA:=by
  intro t ht p hp
  cases hp
 refine wp_region_flowsT L_closedp ([]:List BoxOp) (F_closedp g o n c base L) (by kernel_rfl) (by kernel_rfl) rfl hnd ?_ ?_ ?_ ?_ ?_ ?_ ?_ ?_
 · intro p hp
   cases hp
 · intro p hp;cases hp
 · intro p hp;cases hp
 · intro i o h1 h2
   match i,h1 with
   | 0,h1=>cases h1;cases h2
   | 1,h1=>cases h1;cases h2
   | 2,h1=>cases h1;cases h2
   | 3,h1=>cases h1;cases h2
   | 4,h1=>cases h1;cases h2
   | 5,h1=>cases h1;cases h2
   | 6,h1=>cases h1;cases h2
   | 7,h1=>cases h1;cases h2
   | 8,h1=>cases h1;cases h2
   | 9,h1=>cases h1;cases h2
   | 10,h1=>cases h1;cases h2
   | 11,h1=>cases h1;cases h2
   | 12,h1=>cases h1;cases h2
   | i+13,h1=>cases h1
 · intro t
   unfold F_closedp
   split <;> first | exact (stays_eq _).inn _ | exact (stays_q _ _).inn _ | exact (stays_z _ _).inn _ | exact (stays_r _ _).inn _ | exact (stays_rq _ _).inn _ | exact (stays_pg _ _ _).inn _ | exact (stays_true).inn _ | exact stays_sb _ _ _ _ _ _ (fun p hp=>by cases hp)
 · intro i o t sv w' ho hia hd J0 hf
   have hL:=hL.below J0
   match i,ho with
   | 0,ho =>
     obtain rfl:o0_closedp=o:=Option.some.inj ho
     cases hd
     refine wpOp_plain' (o:=o0_closedp) rfl rfl ?_
     unfold Oper.wp o0_closedp
     rw [run_move (E0 sv),Oper.upon_value]
     exact ⟨_,rfl,Below.refl _ _,rfl⟩
   | 1,ho =>
     obtain rfl:o1_closedp=o:=Option.some.inj ho
     cases hd
     refine wpOp_plain' (o:=o1_closedp) rfl rfl ?_
     unfold Oper.wp o1_closedp
     rw [run_move (E0 sv),Oper.upon_value]
     exact ⟨_,rfl,Below.refl _ _,rfl⟩
   | 2,ho =>
     obtain rfl:o2_closedp=o:=Option.some.inj ho
     cases hd
     have f4:sv 4=Value.slice (some ⟨g,o,none⟩) n c:=hf ⟨1,.data⟩ (by simp [o2_closedp]) rfl _ 4 rfl rfl (NE _ (by decide))
     refine wpOp_plain' (o:=o2_closedp) rfl rfl ?_
     unfold Oper.wp o2_closedp
     rw [run_len_p ((G sv 4 (by decide) (by decide)).trans f4) ,Oper.upon_value]
     exact ⟨_,rfl,Below.refl _ _,rfl⟩
   | 3,ho =>
     obtain rfl:o3_closedp=o:=Option.some.inj ho
     cases hd
     refine wpOp_plain' (o:=o3_closedp) rfl rfl ?_
     unfold Oper.wp o3_closedp
     rw [run_move (E0 sv),Oper.upon_value]
     exact ⟨_,rfl,Below.refl _ _,rfl⟩
   | 4,ho =>
     obtain rfl:o4_closedp=o:=Option.some.inj ho
     cases hd
     have f6:sv 6=Value.slice (some ⟨g,o,none⟩) n c:=hf ⟨3,.data⟩ (by simp [o4_closedp]) rfl _ 6 rfl rfl (NE _ (by decide))
     refine wpOp_plain' (o:=o4_closedp) rfl rfl ?_
     unfold Oper.wp o4_closedp
     rw [run_len_p ((G sv 6 (by decide) (by decide)).trans f6) ,Oper.upon_value]
     exact ⟨_,rfl,Below.refl _ _,rfl⟩
   | 5,ho =>
     obtain rfl:o5_closedp=o:=Option.some.inj ho
     cases hd
     have f3:sv 3=Value.slice (some ⟨g,o,none⟩) n c:=hf ⟨0,.data⟩ (by simp [o5_closedp]) rfl _ 3 rfl rfl (NE _ (by decide))
     have f5:sv 5=Value.int .i64 (n:Int):=hf ⟨2,.data⟩ (by simp [o5_closedp]) rfl _ 5 rfl rfl (NE _ (by decide))
     have f7:sv 7=Value.int .i64 (n:Int):=hf ⟨4,.data⟩ (by simp [o5_closedp]) rfl _ 7 rfl rfl (NE _ (by decide))
     refine wpOp_plain' (o:=o5_closedp) rfl rfl ?_
     unfold Oper.wp o5_closedp
     rw [run_cut3_p ((G sv 3 (by decide) (by decide)).trans f3) ((G sv 5 (by decide) (by decide)).trans f5) ((G sv 7 (by decide) (by decide)).trans f7) hnc,Oper.upon_value]
     exact ⟨_,rfl,Below.refl _ _,rfl⟩
   | 6,ho =>
     obtain rfl:o6_closedp=o:=Option.some.inj ho
     cases hd
     refine wpOp_plain' (o:=o6_closedp) rfl rfl ?_
     unfold Oper.wp o6_closedp
     rw [run_move (E0 sv),Oper.upon_value]
     exact ⟨_,rfl,Below.refl _ _,rfl⟩
   | 7,ho =>
     obtain rfl:o7_closedp=o:=Option.some.inj ho
     cases hd
     refine wpOp_plain' (o:=o7_closedp) rfl rfl ?_
     unfold Oper.wp o7_closedp
     rw [run_move (E0 sv),Oper.upon_value]
     exact ⟨_,rfl,Below.refl _ _,rfl⟩
   | 8,ho =>
     obtain rfl:o8_closedp=o:=Option.some.inj ho
     cases hd
     have f10:sv 10=Value.slice (some ⟨g,o,none⟩) n c:=hf ⟨7,.data⟩ (by simp [o8_closedp]) rfl _ 10 rfl rfl (NE _ (by decide))
     refine wpOp_plain' (o:=o8_closedp) rfl rfl ?_
     unfold Oper.wp o8_closedp
     rw [run_len_p ((G sv 10 (by decide) (by decide)).trans f10) ,Oper.upon_value]
     exact ⟨_,rfl,Below.refl _ _,rfl⟩
   | 9,ho =>
     obtain rfl:o9_closedp=o:=Option.some.inj ho
     cases hd
     have f11:sv 11=Value.int .i64 (n:Int):=hf ⟨8,.data⟩ (by simp [o9_closedp]) rfl _ 11 rfl rfl (NE _ (by decide))
     refine wpOp_plain' (o:=o9_closedp) rfl rfl ?_
     unfold Oper.wp o9_closedp
     rw [run_min1 h0 ((G sv 11 (by decide) (by decide)).trans f11) (show (putAll ac L_closedp sv).eval (.const (Value.int IntKind.i64 1))=(Value.int IntKind.i64 1) from rfl) ,Oper.upon_value]
     exact ⟨_,rfl,Below.refl _ _,rfl⟩
   | 10,ho =>
     obtain rfl:o10_closedp=o:=Option.some.inj ho
     cases hd
     have f9:sv 9=Value.slice (some ⟨g,o,none⟩) n c:=hf ⟨6,.data⟩ (by simp [o10_closedp]) rfl _ 9 rfl rfl (NE _ (by decide))
     have f12:sv 12=Value.int .i64 1:=hf ⟨9,.data⟩ (by simp [o10_closedp]) rfl _ 12 rfl rfl (NE _ (by decide))
     refine wpOp_plain' (o:=o10_closedp) rfl rfl ?_
     unfold Oper.wp o10_closedp
     rw [run_cut2_p (m:=1) rfl (by omega) ((G sv 9 (by decide) (by decide)).trans f9) ((G sv 12 (by decide) (by decide)).trans f12) ,Oper.upon_value]
     exact ⟨_,rfl,Below.refl _ _,rfl⟩
   | 11,ho =>
     obtain rfl:o11_closedp=o:=Option.some.inj ho
     cases hd
     have f8:sv 8=Value.slice (some ⟨g,o,none⟩) n n:=hf ⟨5,.data⟩ (by simp [o11_closedp]) rfl _ 8 rfl rfl (NE _ (by decide))
     have f13:sv 13=Value.slice (some ⟨g,o,none⟩) 1 c:=hf ⟨10,.data⟩ (by simp [o11_closedp]) rfl _ 13 rfl rfl (NE _ (by decide))
     refine wpOp_plain' (o:=o11_closedp) rfl rfl ?_
     unfold Oper.wp o11_closedp
     obtain ⟨c2,w2,hr,hb2,hB⟩:=run_ring_p (w:=w') ((G sv 8 (by decide) (by decide)).trans f8) ((G sv 13 (by decide) (by decide)).trans f13) hL hn h0 hm
     rw [hr,Oper.upon_value]
     exact ⟨_,rfl,hb2,_,_,rfl,fun _=>⟨_,rfl,Nat.le_trans hbs J0.size,hB⟩⟩
   | 12,ho =>
     obtain rfl:o12_closedp=o:=Option.some.inj ho
     cases hd
     have f:=hf ⟨11,.data⟩ (by simp [o12_closedp]) rfl _ 14 rfl rfl (NE _ (by decide))
     refine wpOp_plain' (o:=o12_closedp) rfl rfl ?_
     unfold Oper.wp o12_closedp
     rw [run_assign (G sv 14 (by decide) (by decide)),Oper.upon_value]
     exact ⟨_,rfl,Below.refl _ _,f⟩
   | i+13,ho=>cases ho
 · intro p hp os sv w' g hos J0 p1 p3 hf
   cases hp
 · intro sv w' J0 hF hB hap
   exact hend sv w'   (hF 12 _ 2 rfl rfl (NE _ (by decide))) J0
def F_nonep (A:Option Addr) (c:Nat) (sl:Nat):Value→World→Prop :=
 match sl with
 | 3=>fun x _=>x=Value.slice A 0 c
 | 4=>fun x _=>x=Value.slice A 0 c
 | 5=>fun x _=>x=Value.int .i64 0
 | 6=>fun x _=>x=Value.slice A 0 c
 | 7=>fun x _=>x=Value.int .i64 0
 | 8=>fun x _=>x=Value.slice A 0 0
 | 9=>fun x _=>x=Value.slice A 0 c
 | 10=>fun x _=>x=Value.slice A 0 c
 | 11=>fun x _=>x=Value.int .i64 0
 | 12=>fun x _=>x=Value.int .i64 0
 | 13=>fun x _=>x=Value.slice A 0 c
 | 14=>fun x _=>x=Value.slice A 0 0
 | 2=>fun x _=>x=Value.slice A 0 0
 | _=>fun _ _=>True
theorem nonep_region {id:Nat} {ac:Act} {Q:Exit→Act→World→Prop} {A:Option Addr} {c:Nat}
 (hsz:14 < ac.tmps.size) (e0:ac.eval (.tmp 0)=Value.slice A 0 c) 
 (hend:∀ (V:Nat→Value) (w':World),V 2=Value.slice A 0 0→Below w.heap.size w w'→Q .normal (putAll ac [3,4,5,6,7,8,9,10,11,12,13,14,2] V) w') :
 (Code.region id #[o0_closedp,o1_closedp,o2_closedp,o3_closedp,o4_closedp,o5_closedp,o6_closedp,o7_closedp,o8_closedp,o9_closedp,o10_closedp,o11_closedp,o12_closedp] true).wp Tryz.prog Q ac w:=by
 have hnd:L_closedp.Nodup:=by decide
 have G:∀ (sv:Nat→Value) (t:Nat),t ∈ L_closedp→t≤14→(putAll ac L_closedp sv).eval (.tmp t)=sv t:=fun sv t ht h=>eval_putAll_mem (t:=t) L_closedp ac hnd ht (Nat.lt_of_le_of_lt h hsz)
 have E0:∀ sv:Nat→Value,(putAll ac L_closedp sv).eval (.tmp 0)=Value.slice A 0 c:=fun sv=>(eval_putAll_not (v:=sv) L_closedp ac (show 0 ∉ _ by decide)).trans e0
 have NE:∀ t:Nat,(True)→∀ p ∈ ([]:List BoxOp),t ≠ p.tA:=by
  intro t ht p hp
  cases hp
 refine wp_region_flowsT L_closedp ([]:List BoxOp) (F_nonep A c) (by kernel_rfl) (by kernel_rfl) rfl hnd ?_ ?_ ?_ ?_ ?_ ?_ ?_ ?_
 · intro p hp
   cases hp
 · intro p hp;cases hp
 · intro p hp;cases hp
 · intro i o h1 h2
   match i,h1 with
   | 0,h1=>cases h1;cases h2
   | 1,h1=>cases h1;cases h2
   | 2,h1=>cases h1;cases h2
   | 3,h1=>cases h1;cases h2
   | 4,h1=>cases h1;cases h2
   | 5,h1=>cases h1;cases h2
   | 6,h1=>cases h1;cases h2
   | 7,h1=>cases h1;cases h2
   | 8,h1=>cases h1;cases h2
   | 9,h1=>cases h1;cases h2
   | 10,h1=>cases h1;cases h2
   | 11,h1=>cases h1;cases h2
   | 12,h1=>cases h1;cases h2
   | i+13,h1=>cases h1
 · intro t
   unfold F_nonep
   split <;> first | exact (stays_eq _).inn _ | exact (stays_q _ _).inn _ | exact (stays_z _ _).inn _ | exact (stays_r _ _).inn _ | exact (stays_rq _ _).inn _ | exact (stays_pg _ _ _).inn _ | exact (stays_true).inn _
 · intro i o t sv w' ho hia hd J0 hf
   match i,ho with
   | 0,ho =>
     obtain rfl:o0_closedp=o:=Option.some.inj ho
     cases hd
     refine wpOp_plain' (o:=o0_closedp) rfl rfl ?_
     unfold Oper.wp o0_closedp
     rw [run_move (E0 sv),Oper.upon_value]
     exact ⟨_,rfl,Below.refl _ _,rfl⟩
   | 1,ho =>
     obtain rfl:o1_closedp=o:=Option.some.inj ho
     cases hd
     refine wpOp_plain' (o:=o1_closedp) rfl rfl ?_
     unfold Oper.wp o1_closedp
     rw [run_move (E0 sv),Oper.upon_value]
     exact ⟨_,rfl,Below.refl _ _,rfl⟩
   | 2,ho =>
     obtain rfl:o2_closedp=o:=Option.some.inj ho
     cases hd
     have f4:sv 4=Value.slice A 0 c:=hf ⟨1,.data⟩ (by simp [o2_closedp]) rfl _ 4 rfl rfl (NE _ (by decide))
     refine wpOp_plain' (o:=o2_closedp) rfl rfl ?_
     unfold Oper.wp o2_closedp
     rw [run_len_p (n:=0) ((G sv 4 (by decide) (by decide)).trans f4) ,Oper.upon_value]
     exact ⟨_,rfl,Below.refl _ _,rfl⟩
   | 3,ho =>
     obtain rfl:o3_closedp=o:=Option.some.inj ho
     cases hd
     refine wpOp_plain' (o:=o3_closedp) rfl rfl ?_
     unfold Oper.wp o3_closedp
     rw [run_move (E0 sv),Oper.upon_value]
     exact ⟨_,rfl,Below.refl _ _,rfl⟩
   | 4,ho =>
     obtain rfl:o4_closedp=o:=Option.some.inj ho
     cases hd
     have f6:sv 6=Value.slice A 0 c:=hf ⟨3,.data⟩ (by simp [o4_closedp]) rfl _ 6 rfl rfl (NE _ (by decide))
     refine wpOp_plain' (o:=o4_closedp) rfl rfl ?_
     unfold Oper.wp o4_closedp
     rw [run_len_p (n:=0) ((G sv 6 (by decide) (by decide)).trans f6) ,Oper.upon_value]
     exact ⟨_,rfl,Below.refl _ _,rfl⟩
   | 5,ho =>
     obtain rfl:o5_closedp=o:=Option.some.inj ho
     cases hd
     have f3:sv 3=Value.slice A 0 c:=hf ⟨0,.data⟩ (by simp [o5_closedp]) rfl _ 3 rfl rfl (NE _ (by decide))
     have f5:sv 5=Value.int .i64 0:=hf ⟨2,.data⟩ (by simp [o5_closedp]) rfl _ 5 rfl rfl (NE _ (by decide))
     have f7:sv 7=Value.int .i64 0:=hf ⟨4,.data⟩ (by simp [o5_closedp]) rfl _ 7 rfl rfl (NE _ (by decide))
     refine wpOp_plain' (o:=o5_closedp) rfl rfl ?_
     unfold Oper.wp o5_closedp
     rw [run_cut3_p (n:=0) ((G sv 3 (by decide) (by decide)).trans f3) ((G sv 5 (by decide) (by decide)).trans f5) ((G sv 7 (by decide) (by decide)).trans f7) (Nat.zero_le _),Oper.upon_value]
     exact ⟨_,rfl,Below.refl _ _,rfl⟩
   | 6,ho =>
     obtain rfl:o6_closedp=o:=Option.some.inj ho
     cases hd
     refine wpOp_plain' (o:=o6_closedp) rfl rfl ?_
     unfold Oper.wp o6_closedp
     rw [run_move (E0 sv),Oper.upon_value]
     exact ⟨_,rfl,Below.refl _ _,rfl⟩
   | 7,ho =>
     obtain rfl:o7_closedp=o:=Option.some.inj ho
     cases hd
     refine wpOp_plain' (o:=o7_closedp) rfl rfl ?_
     unfold Oper.wp o7_closedp
     rw [run_move (E0 sv),Oper.upon_value]
     exact ⟨_,rfl,Below.refl _ _,rfl⟩
   | 8,ho =>
     obtain rfl:o8_closedp=o:=Option.some.inj ho
     cases hd
     have f10:sv 10=Value.slice A 0 c:=hf ⟨7,.data⟩ (by simp [o8_closedp]) rfl _ 10 rfl rfl (NE _ (by decide))
     refine wpOp_plain' (o:=o8_closedp) rfl rfl ?_
     unfold Oper.wp o8_closedp
     rw [run_len_p (n:=0) ((G sv 10 (by decide) (by decide)).trans f10) ,Oper.upon_value]
     exact ⟨_,rfl,Below.refl _ _,rfl⟩
   | 9,ho =>
     obtain rfl:o9_closedp=o:=Option.some.inj ho
     cases hd
     have f11:sv 11=Value.int .i64 0:=hf ⟨8,.data⟩ (by simp [o9_closedp]) rfl _ 11 rfl rfl (NE _ (by decide))
     refine wpOp_plain' (o:=o9_closedp) rfl rfl ?_
     unfold Oper.wp o9_closedp
     rw [run_min0 ((G sv 11 (by decide) (by decide)).trans f11) (show (putAll ac L_closedp sv).eval (.const (Value.int IntKind.i64 1))=(Value.int IntKind.i64 1) from rfl) ,Oper.upon_value]
     exact ⟨_,rfl,Below.refl _ _,rfl⟩
   | 10,ho =>
     obtain rfl:o10_closedp=o:=Option.some.inj ho
     cases hd
     have f9:sv 9=Value.slice A 0 c:=hf ⟨6,.data⟩ (by simp [o10_closedp]) rfl _ 9 rfl rfl (NE _ (by decide))
     have f12:sv 12=Value.int .i64 0:=hf ⟨9,.data⟩ (by simp [o10_closedp]) rfl _ 12 rfl rfl (NE _ (by decide))
     refine wpOp_plain' (o:=o10_closedp) rfl rfl ?_
     unfold Oper.wp o10_closedp
     rw [run_cut2_p (m:=0) rfl (Nat.zero_le _) ((G sv 9 (by decide) (by decide)).trans f9) ((G sv 12 (by decide) (by decide)).trans f12) ,Oper.upon_value]
     exact ⟨_,rfl,Below.refl _ _,rfl⟩
   | 11,ho =>
     obtain rfl:o11_closedp=o:=Option.some.inj ho
     cases hd
     have f8:sv 8=Value.slice A 0 0:=hf ⟨5,.data⟩ (by simp [o11_closedp]) rfl _ 8 rfl rfl (NE _ (by decide))
     have f13:sv 13=Value.slice A 0 c:=hf ⟨10,.data⟩ (by simp [o11_closedp]) rfl _ 13 rfl rfl (NE _ (by decide))
     refine wpOp_plain' (o:=o11_closedp) rfl rfl ?_
     unfold Oper.wp o11_closedp
     rw [run_app0_p ((G sv 8 (by decide) (by decide)).trans f8) ((G sv 13 (by decide) (by decide)).trans f13) ,Oper.upon_value]
     exact ⟨_,rfl,Below.refl _ _,rfl⟩
   | 12,ho =>
     obtain rfl:o12_closedp=o:=Option.some.inj ho
     cases hd
     have f:=hf ⟨11,.data⟩ (by simp [o12_closedp]) rfl _ 14 rfl rfl (NE _ (by decide))
     refine wpOp_plain' (o:=o12_closedp) rfl rfl ?_
     unfold Oper.wp o12_closedp
     rw [run_assign (G sv 14 (by decide) (by decide)),Oper.upon_value]
     exact ⟨_,rfl,Below.refl _ _,f⟩
   | i+13,ho=>cases ho
 · intro p hp os sv w' g hos J0 p1 p3 hf
   cases hp
 · intro sv w' J0 hF hB hap
   exact hend sv w'  (hF 12 _ 2 rfl rfl (NE _ (by decide)))  J0
theorem closed_p {A:Option Addr} {n c base:Nat} {L:List PV} (hL:SV w A (pvs L)) (hn:L.length=n) (hm:n≤100000) (hnc:n≤c) (hbs:base≤w.heap.size) :
 Calls Tryz.prog 47 #[.slice A n c] w fun e w'=>∃ A' c',e=.returned (.slice A' (n+min 1 n) c')∧SNr 29 base n (pvs (L ++ L.take 1)) w' A'∧Below w.heap.size w w':=by
 rcases Nat.eq_zero_or_pos n with h0 | h0
 · subst h0
   go_enter Tryz.func47,Tryz.ntmps47
   go_upto_region 1 with (fail)
   refine nonep_region (by simp) rfl ?_
   intro V w' hv hh
   simp only [putAll,Act.put,List.setIfInBounds_toArray,List.set_cons_zero,List.set_cons_succ,hv]
   go_wp2_with fail
   (try rw [Exit.noGoto_ret])
   go_ret
   exact ⟨_,_,rfl,fun h=>absurd h (by omega),hh⟩
 · obtain ⟨g,o,rfl,_,_⟩:=hL (by rw [show (pvs L).length=L.length*6 from rows_length pvc_len L,hn];omega)
   go_enter Tryz.func47,Tryz.ntmps47
   go_upto_region 1 with (fail)
   refine closedp_region (by simp) rfl hL hn h0 hm hnc hbs ?_
   intro V w' hF hh
   obtain ⟨A',c',hv,hS⟩:=hF
   simp only [putAll,Act.put,List.setIfInBounds_toArray,List.set_cons_zero,List.set_cons_succ,hv]
   go_wp2_with fail
   (try rw [Exit.noGoto_ret])
   go_ret
   exact ⟨A',c',by rw [show n+min 1 n=n+1 by omega];rfl,hS,hh⟩
abbrev L_closedc:List Nat:=[3,4,5,6,7,8,9,10,11,12,13,14,2]
def o0_closedc:Oper:=⟨some 3,.move (.tmp 0),89, "area.go:53",#[],none⟩
def o1_closedc:Oper:=⟨some 4,.move (.tmp 0),89, "area.go:53",#[],none⟩
def o2_closedc:Oper:=⟨some 5,.call ⟨.builtin Builtin.len,#[.tmp 4],#[89]⟩,3, "area.go:53",#[⟨1,.data⟩],none⟩
def o3_closedc:Oper:=⟨some 6,.move (.tmp 0),89, "area.go:53",#[],none⟩
def o4_closedc:Oper:=⟨some 7,.call ⟨.builtin Builtin.len,#[.tmp 6],#[89]⟩,3, "area.go:53",#[⟨3,.data⟩],none⟩
def o5_closedc:Oper:=⟨some 8,.slice 89 (.tmp 3) none (some (.tmp 5)) (some (.tmp 7)),89, "area.go:53",#[⟨0,.data⟩,⟨2,.data⟩,⟨4,.data⟩],none⟩
def o6_closedc:Oper:=⟨some 9,.move (.tmp 0),89, "area.go:53",#[],none⟩
def o7_closedc:Oper:=⟨some 10,.move (.tmp 0),89, "area.go:53",#[],none⟩
def o8_closedc:Oper:=⟨some 11,.call ⟨.builtin Builtin.len,#[.tmp 10],#[89]⟩,3, "area.go:53",#[⟨7,.data⟩],none⟩
def o9_closedc:Oper:=⟨some 12,.call ⟨.builtin Builtin.min,#[.const (Value.int IntKind.i64 1),.tmp 11],#[3,3]⟩,3, "area.go:53",#[⟨8,.data⟩],none⟩
def o10_closedc:Oper:=⟨some 13,.slice 89 (.tmp 9) none (some (.tmp 12)) none,89, "area.go:53",#[⟨6,.data⟩,⟨9,.data⟩],none⟩
def o11_closedc:Oper:=⟨some 14,.call ⟨.builtin Builtin.append,#[.tmp 8,.tmp 13],#[89,89]⟩,89, "area.go:53",#[⟨5,.data⟩,⟨10,.data⟩],none⟩
def o12_closedc:Oper:=⟨some 2,.assign (.tmp 14),89, "area.go:53",#[⟨11,.data⟩,⟨11,.chain⟩,⟨0,.phase⟩,⟨1,.phase⟩,⟨2,.phase⟩,⟨3,.phase⟩,⟨4,.phase⟩,⟨5,.phase⟩,⟨6,.phase⟩,⟨7,.phase⟩,⟨8,.phase⟩,⟨9,.phase⟩,⟨10,.phase⟩,⟨11,.phase⟩],none⟩
def F_closedc (g:Nat) (o:Nat) (n:Nat) (c:Nat) (base:Nat) (L:List CV) (sl:Nat):Value→World→Prop :=
 match sl with
 | 3=>fun x _=>x=Value.slice (some ⟨g,o,none⟩) n c
 | 4=>fun x _=>x=Value.slice (some ⟨g,o,none⟩) n c
 | 5=>fun x _=>x=Value.int .i64 (n:Int)
 | 6=>fun x _=>x=Value.slice (some ⟨g,o,none⟩) n c
 | 7=>fun x _=>x=Value.int .i64 (n:Int)
 | 8=>fun x _=>x=Value.slice (some ⟨g,o,none⟩) n n
 | 9=>fun x _=>x=Value.slice (some ⟨g,o,none⟩) n c
 | 10=>fun x _=>x=Value.slice (some ⟨g,o,none⟩) n c
 | 11=>fun x _=>x=Value.int .i64 (n:Int)
 | 12=>fun x _=>x=Value.int .i64 1
 | 13=>fun x _=>x=Value.slice (some ⟨g,o,none⟩) 1 c
 | 14=>VSB (92) (base) (n) (n+1) (cvs (L ++ L.take 1))
 | 2=>VSB (92) (base) (n) (n+1) (cvs (L ++ L.take 1))
 | _=>fun _ _=>True
theorem closedc_region {id:Nat} {ac:Act} {Q:Exit→Act→World→Prop} {g o n c base:Nat} {L:List CV}
 (hsz:14 < ac.tmps.size) (e0:ac.eval (.tmp 0)=Value.slice (some ⟨g,o,none⟩) n c) (hL:SV w (some ⟨g,o,none⟩) (cvs L)) (hn:L.length=n) (h0:0 < n) (hm:n≤100000) (hnc:n≤c) (hbs:base≤w.heap.size)
 (hend:∀ (V:Nat→Value) (w':World),(VSB (92) (base) (n) (n+1) (cvs (L ++ L.take 1))) (V 2) w'→Below w.heap.size w w'→Q .normal (putAll ac [3,4,5,6,7,8,9,10,11,12,13,14,2] V) w') :
 (Code.region id #[o0_closedc,o1_closedc,o2_closedc,o3_closedc,o4_closedc,o5_closedc,o6_closedc,o7_closedc,o8_closedc,o9_closedc,o10_closedc,o11_closedc,o12_closedc] true).wp Tryz.prog Q ac w:=by
 have hnd:L_closedc.Nodup:=by decide
 have G:∀ (sv:Nat→Value) (t:Nat),t ∈ L_closedc→t≤14→(putAll ac L_closedc sv).eval (.tmp t)=sv t:=fun sv t ht h=>eval_putAll_mem (t:=t) L_closedc ac hnd ht (Nat.lt_of_le_of_lt h hsz)
 have E0:∀ sv:Nat→Value,(putAll ac L_closedc sv).eval (.tmp 0)=Value.slice (some ⟨g,o,none⟩) n c:=fun sv=>(eval_putAll_not (v:=sv) L_closedc ac (show 0 ∉ _ by decide)).trans e0
 have NE:∀ t:Nat,(True)→∀ p ∈ ([]:List BoxOp),t ≠ p.tA:=by
  intro t ht p hp
  cases hp
 refine wp_region_flowsT L_closedc ([]:List BoxOp) (F_closedc g o n c base L) (by kernel_rfl) (by kernel_rfl) rfl hnd ?_ ?_ ?_ ?_ ?_ ?_ ?_ ?_
 · intro p hp
   cases hp
 · intro p hp;cases hp
 · intro p hp;cases hp
 · intro i o h1 h2
   match i,h1 with
   | 0,h1=>cases h1;cases h2
   | 1,h1=>cases h1;cases h2
   | 2,h1=>cases h1;cases h2
   | 3,h1=>cases h1;cases h2
   | 4,h1=>cases h1;cases h2
   | 5,h1=>cases h1;cases h2
   | 6,h1=>cases h1;cases h2
   | 7,h1=>cases h1;cases h2
   | 8,h1=>cases h1;cases h2
   | 9,h1=>cases h1;cases h2
   | 10,h1=>cases h1;cases h2
   | 11,h1=>cases h1;cases h2
   | 12,h1=>cases h1;cases h2
   | i+13,h1=>cases h1
 · intro t
   unfold F_closedc
   split <;> first | exact (stays_eq _).inn _ | exact (stays_q _ _).inn _ | exact (stays_z _ _).inn _ | exact (stays_r _ _).inn _ | exact (stays_rq _ _).inn _ | exact (stays_pg _ _ _).inn _ | exact (stays_true).inn _ | exact stays_sb _ _ _ _ _ _ (fun p hp=>by cases hp)
 · intro i o t sv w' ho hia hd J0 hf
   have hL:=hL.below J0
   match i,ho with
   | 0,ho =>
     obtain rfl:o0_closedc=o:=Option.some.inj ho
     cases hd
     refine wpOp_plain' (o:=o0_closedc) rfl rfl ?_
     unfold Oper.wp o0_closedc
     rw [run_move (E0 sv),Oper.upon_value]
     exact ⟨_,rfl,Below.refl _ _,rfl⟩
   | 1,ho =>
     obtain rfl:o1_closedc=o:=Option.some.inj ho
     cases hd
     refine wpOp_plain' (o:=o1_closedc) rfl rfl ?_
     unfold Oper.wp o1_closedc
     rw [run_move (E0 sv),Oper.upon_value]
     exact ⟨_,rfl,Below.refl _ _,rfl⟩
   | 2,ho =>
     obtain rfl:o2_closedc=o:=Option.some.inj ho
     cases hd
     have f4:sv 4=Value.slice (some ⟨g,o,none⟩) n c:=hf ⟨1,.data⟩ (by simp [o2_closedc]) rfl _ 4 rfl rfl (NE _ (by decide))
     refine wpOp_plain' (o:=o2_closedc) rfl rfl ?_
     unfold Oper.wp o2_closedc
     rw [run_len_c ((G sv 4 (by decide) (by decide)).trans f4) ,Oper.upon_value]
     exact ⟨_,rfl,Below.refl _ _,rfl⟩
   | 3,ho =>
     obtain rfl:o3_closedc=o:=Option.some.inj ho
     cases hd
     refine wpOp_plain' (o:=o3_closedc) rfl rfl ?_
     unfold Oper.wp o3_closedc
     rw [run_move (E0 sv),Oper.upon_value]
     exact ⟨_,rfl,Below.refl _ _,rfl⟩
   | 4,ho =>
     obtain rfl:o4_closedc=o:=Option.some.inj ho
     cases hd
     have f6:sv 6=Value.slice (some ⟨g,o,none⟩) n c:=hf ⟨3,.data⟩ (by simp [o4_closedc]) rfl _ 6 rfl rfl (NE _ (by decide))
     refine wpOp_plain' (o:=o4_closedc) rfl rfl ?_
     unfold Oper.wp o4_closedc
     rw [run_len_c ((G sv 6 (by decide) (by decide)).trans f6) ,Oper.upon_value]
     exact ⟨_,rfl,Below.refl _ _,rfl⟩
   | 5,ho =>
     obtain rfl:o5_closedc=o:=Option.some.inj ho
     cases hd
     have f3:sv 3=Value.slice (some ⟨g,o,none⟩) n c:=hf ⟨0,.data⟩ (by simp [o5_closedc]) rfl _ 3 rfl rfl (NE _ (by decide))
     have f5:sv 5=Value.int .i64 (n:Int):=hf ⟨2,.data⟩ (by simp [o5_closedc]) rfl _ 5 rfl rfl (NE _ (by decide))
     have f7:sv 7=Value.int .i64 (n:Int):=hf ⟨4,.data⟩ (by simp [o5_closedc]) rfl _ 7 rfl rfl (NE _ (by decide))
     refine wpOp_plain' (o:=o5_closedc) rfl rfl ?_
     unfold Oper.wp o5_closedc
     rw [run_cut3_c ((G sv 3 (by decide) (by decide)).trans f3) ((G sv 5 (by decide) (by decide)).trans f5) ((G sv 7 (by decide) (by decide)).trans f7) hnc,Oper.upon_value]
     exact ⟨_,rfl,Below.refl _ _,rfl⟩
   | 6,ho =>
     obtain rfl:o6_closedc=o:=Option.some.inj ho
     cases hd
     refine wpOp_plain' (o:=o6_closedc) rfl rfl ?_
     unfold Oper.wp o6_closedc
     rw [run_move (E0 sv),Oper.upon_value]
     exact ⟨_,rfl,Below.refl _ _,rfl⟩
   | 7,ho =>
     obtain rfl:o7_closedc=o:=Option.some.inj ho
     cases hd
     refine wpOp_plain' (o:=o7_closedc) rfl rfl ?_
     unfold Oper.wp o7_closedc
     rw [run_move (E0 sv),Oper.upon_value]
     exact ⟨_,rfl,Below.refl _ _,rfl⟩
   | 8,ho =>
     obtain rfl:o8_closedc=o:=Option.some.inj ho
     cases hd
     have f10:sv 10=Value.slice (some ⟨g,o,none⟩) n c:=hf ⟨7,.data⟩ (by simp [o8_closedc]) rfl _ 10 rfl rfl (NE _ (by decide))
     refine wpOp_plain' (o:=o8_closedc) rfl rfl ?_
     unfold Oper.wp o8_closedc
     rw [run_len_c ((G sv 10 (by decide) (by decide)).trans f10) ,Oper.upon_value]
     exact ⟨_,rfl,Below.refl _ _,rfl⟩
   | 9,ho =>
     obtain rfl:o9_closedc=o:=Option.some.inj ho
     cases hd
     have f11:sv 11=Value.int .i64 (n:Int):=hf ⟨8,.data⟩ (by simp [o9_closedc]) rfl _ 11 rfl rfl (NE _ (by decide))
     refine wpOp_plain' (o:=o9_closedc) rfl rfl ?_
     unfold Oper.wp o9_closedc
     rw [run_min1 h0 ((G sv 11 (by decide) (by decide)).trans f11) (show (putAll ac L_closedc sv).eval (.const (Value.int IntKind.i64 1))=(Value.int IntKind.i64 1) from rfl) ,Oper.upon_value]
     exact ⟨_,rfl,Below.refl _ _,rfl⟩
   | 10,ho =>
     obtain rfl:o10_closedc=o:=Option.some.inj ho
     cases hd
     have f9:sv 9=Value.slice (some ⟨g,o,none⟩) n c:=hf ⟨6,.data⟩ (by simp [o10_closedc]) rfl _ 9 rfl rfl (NE _ (by decide))
     have f12:sv 12=Value.int .i64 1:=hf ⟨9,.data⟩ (by simp [o10_closedc]) rfl _ 12 rfl rfl (NE _ (by decide))
     refine wpOp_plain' (o:=o10_closedc) rfl rfl ?_
     unfold Oper.wp o10_closedc
     rw [run_cut2_c (m:=1) rfl (by omega) ((G sv 9 (by decide) (by decide)).trans f9) ((G sv 12 (by decide) (by decide)).trans f12) ,Oper.upon_value]
     exact ⟨_,rfl,Below.refl _ _,rfl⟩
   | 11,ho =>
     obtain rfl:o11_closedc=o:=Option.some.inj ho
     cases hd
     have f8:sv 8=Value.slice (some ⟨g,o,none⟩) n n:=hf ⟨5,.data⟩ (by simp [o11_closedc]) rfl _ 8 rfl rfl (NE _ (by decide))
     have f13:sv 13=Value.slice (some ⟨g,o,none⟩) 1 c:=hf ⟨10,.data⟩ (by simp [o11_closedc]) rfl _ 13 rfl rfl (NE _ (by decide))
     refine wpOp_plain' (o:=o11_closedc) rfl rfl ?_
     unfold Oper.wp o11_closedc
     obtain ⟨c2,w2,hr,hb2,hB⟩:=run_ring_c (w:=w') ((G sv 8 (by decide) (by decide)).trans f8) ((G sv 13 (by decide) (by decide)).trans f13) hL hn h0 hm
     rw [hr,Oper.upon_value]
     exact ⟨_,rfl,hb2,_,_,rfl,fun _=>⟨_,rfl,Nat.le_trans hbs J0.size,hB⟩⟩
   | 12,ho =>
     obtain rfl:o12_closedc=o:=Option.some.inj ho
     cases hd
     have f:=hf ⟨11,.data⟩ (by simp [o12_closedc]) rfl _ 14 rfl rfl (NE _ (by decide))
     refine wpOp_plain' (o:=o12_closedc) rfl rfl ?_
     unfold Oper.wp o12_closedc
     rw [run_assign (G sv 14 (by decide) (by decide)),Oper.upon_value]
     exact ⟨_,rfl,Below.refl _ _,f⟩
   | i+13,ho=>cases ho
 · intro p hp os sv w' g hos J0 p1 p3 hf
   cases hp
 · intro sv w' J0 hF hB hap
   exact hend sv w'   (hF 12 _ 2 rfl rfl (NE _ (by decide))) J0
def F_nonec (A:Option Addr) (c:Nat) (sl:Nat):Value→World→Prop :=
 match sl with
 | 3=>fun x _=>x=Value.slice A 0 c
 | 4=>fun x _=>x=Value.slice A 0 c
 | 5=>fun x _=>x=Value.int .i64 0
 | 6=>fun x _=>x=Value.slice A 0 c
 | 7=>fun x _=>x=Value.int .i64 0
 | 8=>fun x _=>x=Value.slice A 0 0
 | 9=>fun x _=>x=Value.slice A 0 c
 | 10=>fun x _=>x=Value.slice A 0 c
 | 11=>fun x _=>x=Value.int .i64 0
 | 12=>fun x _=>x=Value.int .i64 0
 | 13=>fun x _=>x=Value.slice A 0 c
 | 14=>fun x _=>x=Value.slice A 0 0
 | 2=>fun x _=>x=Value.slice A 0 0
 | _=>fun _ _=>True
theorem nonec_region {id:Nat} {ac:Act} {Q:Exit→Act→World→Prop} {A:Option Addr} {c:Nat}
 (hsz:14 < ac.tmps.size) (e0:ac.eval (.tmp 0)=Value.slice A 0 c) 
 (hend:∀ (V:Nat→Value) (w':World),V 2=Value.slice A 0 0→Below w.heap.size w w'→Q .normal (putAll ac [3,4,5,6,7,8,9,10,11,12,13,14,2] V) w') :
 (Code.region id #[o0_closedc,o1_closedc,o2_closedc,o3_closedc,o4_closedc,o5_closedc,o6_closedc,o7_closedc,o8_closedc,o9_closedc,o10_closedc,o11_closedc,o12_closedc] true).wp Tryz.prog Q ac w:=by
 have hnd:L_closedc.Nodup:=by decide
 have G:∀ (sv:Nat→Value) (t:Nat),t ∈ L_closedc→t≤14→(putAll ac L_closedc sv).eval (.tmp t)=sv t:=fun sv t ht h=>eval_putAll_mem (t:=t) L_closedc ac hnd ht (Nat.lt_of_le_of_lt h hsz)
 have E0:∀ sv:Nat→Value,(putAll ac L_closedc sv).eval (.tmp 0)=Value.slice A 0 c:=fun sv=>(eval_putAll_not (v:=sv) L_closedc ac (show 0 ∉ _ by decide)).trans e0
 have NE:∀ t:Nat,(True)→∀ p ∈ ([]:List BoxOp),t ≠ p.tA:=by
  intro t ht p hp
  cases hp
 refine wp_region_flowsT L_closedc ([]:List BoxOp) (F_nonec A c) (by kernel_rfl) (by kernel_rfl) rfl hnd ?_ ?_ ?_ ?_ ?_ ?_ ?_ ?_
 · intro p hp
   cases hp
 · intro p hp;cases hp
 · intro p hp;cases hp
 · intro i o h1 h2
   match i,h1 with
   | 0,h1=>cases h1;cases h2
   | 1,h1=>cases h1;cases h2
   | 2,h1=>cases h1;cases h2
   | 3,h1=>cases h1;cases h2
   | 4,h1=>cases h1;cases h2
   | 5,h1=>cases h1;cases h2
   | 6,h1=>cases h1;cases h2
   | 7,h1=>cases h1;cases h2
   | 8,h1=>cases h1;cases h2
   | 9,h1=>cases h1;cases h2
   | 10,h1=>cases h1;cases h2
   | 11,h1=>cases h1;cases h2
   | 12,h1=>cases h1;cases h2
   | i+13,h1=>cases h1
 · intro t
   unfold F_nonec
   split <;> first | exact (stays_eq _).inn _ | exact (stays_q _ _).inn _ | exact (stays_z _ _).inn _ | exact (stays_r _ _).inn _ | exact (stays_rq _ _).inn _ | exact (stays_pg _ _ _).inn _ | exact (stays_true).inn _
 · intro i o t sv w' ho hia hd J0 hf
   match i,ho with
   | 0,ho =>
     obtain rfl:o0_closedc=o:=Option.some.inj ho
     cases hd
     refine wpOp_plain' (o:=o0_closedc) rfl rfl ?_
     unfold Oper.wp o0_closedc
     rw [run_move (E0 sv),Oper.upon_value]
     exact ⟨_,rfl,Below.refl _ _,rfl⟩
   | 1,ho =>
     obtain rfl:o1_closedc=o:=Option.some.inj ho
     cases hd
     refine wpOp_plain' (o:=o1_closedc) rfl rfl ?_
     unfold Oper.wp o1_closedc
     rw [run_move (E0 sv),Oper.upon_value]
     exact ⟨_,rfl,Below.refl _ _,rfl⟩
   | 2,ho =>
     obtain rfl:o2_closedc=o:=Option.some.inj ho
     cases hd
     have f4:sv 4=Value.slice A 0 c:=hf ⟨1,.data⟩ (by simp [o2_closedc]) rfl _ 4 rfl rfl (NE _ (by decide))
     refine wpOp_plain' (o:=o2_closedc) rfl rfl ?_
     unfold Oper.wp o2_closedc
     rw [run_len_c (n:=0) ((G sv 4 (by decide) (by decide)).trans f4) ,Oper.upon_value]
     exact ⟨_,rfl,Below.refl _ _,rfl⟩
   | 3,ho =>
     obtain rfl:o3_closedc=o:=Option.some.inj ho
     cases hd
     refine wpOp_plain' (o:=o3_closedc) rfl rfl ?_
     unfold Oper.wp o3_closedc
     rw [run_move (E0 sv),Oper.upon_value]
     exact ⟨_,rfl,Below.refl _ _,rfl⟩
   | 4,ho =>
     obtain rfl:o4_closedc=o:=Option.some.inj ho
     cases hd
     have f6:sv 6=Value.slice A 0 c:=hf ⟨3,.data⟩ (by simp [o4_closedc]) rfl _ 6 rfl rfl (NE _ (by decide))
     refine wpOp_plain' (o:=o4_closedc) rfl rfl ?_
     unfold Oper.wp o4_closedc
     rw [run_len_c (n:=0) ((G sv 6 (by decide) (by decide)).trans f6) ,Oper.upon_value]
     exact ⟨_,rfl,Below.refl _ _,rfl⟩
   | 5,ho =>
     obtain rfl:o5_closedc=o:=Option.some.inj ho
     cases hd
     have f3:sv 3=Value.slice A 0 c:=hf ⟨0,.data⟩ (by simp [o5_closedc]) rfl _ 3 rfl rfl (NE _ (by decide))
     have f5:sv 5=Value.int .i64 0:=hf ⟨2,.data⟩ (by simp [o5_closedc]) rfl _ 5 rfl rfl (NE _ (by decide))
     have f7:sv 7=Value.int .i64 0:=hf ⟨4,.data⟩ (by simp [o5_closedc]) rfl _ 7 rfl rfl (NE _ (by decide))
     refine wpOp_plain' (o:=o5_closedc) rfl rfl ?_
     unfold Oper.wp o5_closedc
     rw [run_cut3_c (n:=0) ((G sv 3 (by decide) (by decide)).trans f3) ((G sv 5 (by decide) (by decide)).trans f5) ((G sv 7 (by decide) (by decide)).trans f7) (Nat.zero_le _),Oper.upon_value]
     exact ⟨_,rfl,Below.refl _ _,rfl⟩
   | 6,ho =>
     obtain rfl:o6_closedc=o:=Option.some.inj ho
     cases hd
     refine wpOp_plain' (o:=o6_closedc) rfl rfl ?_
     unfold Oper.wp o6_closedc
     rw [run_move (E0 sv),Oper.upon_value]
     exact ⟨_,rfl,Below.refl _ _,rfl⟩
   | 7,ho =>
     obtain rfl:o7_closedc=o:=Option.some.inj ho
     cases hd
     refine wpOp_plain' (o:=o7_closedc) rfl rfl ?_
     unfold Oper.wp o7_closedc
     rw [run_move (E0 sv),Oper.upon_value]
     exact ⟨_,rfl,Below.refl _ _,rfl⟩
   | 8,ho =>
     obtain rfl:o8_closedc=o:=Option.some.inj ho
     cases hd
     have f10:sv 10=Value.slice A 0 c:=hf ⟨7,.data⟩ (by simp [o8_closedc]) rfl _ 10 rfl rfl (NE _ (by decide))
     refine wpOp_plain' (o:=o8_closedc) rfl rfl ?_
     unfold Oper.wp o8_closedc
     rw [run_len_c (n:=0) ((G sv 10 (by decide) (by decide)).trans f10) ,Oper.upon_value]
     exact ⟨_,rfl,Below.refl _ _,rfl⟩
   | 9,ho =>
     obtain rfl:o9_closedc=o:=Option.some.inj ho
     cases hd
     have f11:sv 11=Value.int .i64 0:=hf ⟨8,.data⟩ (by simp [o9_closedc]) rfl _ 11 rfl rfl (NE _ (by decide))
     refine wpOp_plain' (o:=o9_closedc) rfl rfl ?_
     unfold Oper.wp o9_closedc
     rw [run_min0 ((G sv 11 (by decide) (by decide)).trans f11) (show (putAll ac L_closedc sv).eval (.const (Value.int IntKind.i64 1))=(Value.int IntKind.i64 1) from rfl) ,Oper.upon_value]
     exact ⟨_,rfl,Below.refl _ _,rfl⟩
   | 10,ho =>
     obtain rfl:o10_closedc=o:=Option.some.inj ho
     cases hd
     have f9:sv 9=Value.slice A 0 c:=hf ⟨6,.data⟩ (by simp [o10_closedc]) rfl _ 9 rfl rfl (NE _ (by decide))
     have f12:sv 12=Value.int .i64 0:=hf ⟨9,.data⟩ (by simp [o10_closedc]) rfl _ 12 rfl rfl (NE _ (by decide))
     refine wpOp_plain' (o:=o10_closedc) rfl rfl ?_
     unfold Oper.wp o10_closedc
     rw [run_cut2_c (m:=0) rfl (Nat.zero_le _) ((G sv 9 (by decide) (by decide)).trans f9) ((G sv 12 (by decide) (by decide)).trans f12) ,Oper.upon_value]
     exact ⟨_,rfl,Below.refl _ _,rfl⟩
   | 11,ho =>
     obtain rfl:o11_closedc=o:=Option.some.inj ho
     cases hd
     have f8:sv 8=Value.slice A 0 0:=hf ⟨5,.data⟩ (by simp [o11_closedc]) rfl _ 8 rfl rfl (NE _ (by decide))
     have f13:sv 13=Value.slice A 0 c:=hf ⟨10,.data⟩ (by simp [o11_closedc]) rfl _ 13 rfl rfl (NE _ (by decide))
     refine wpOp_plain' (o:=o11_closedc) rfl rfl ?_
     unfold Oper.wp o11_closedc
     rw [run_app0_c ((G sv 8 (by decide) (by decide)).trans f8) ((G sv 13 (by decide) (by decide)).trans f13) ,Oper.upon_value]
     exact ⟨_,rfl,Below.refl _ _,rfl⟩
   | 12,ho =>
     obtain rfl:o12_closedc=o:=Option.some.inj ho
     cases hd
     have f:=hf ⟨11,.data⟩ (by simp [o12_closedc]) rfl _ 14 rfl rfl (NE _ (by decide))
     refine wpOp_plain' (o:=o12_closedc) rfl rfl ?_
     unfold Oper.wp o12_closedc
     rw [run_assign (G sv 14 (by decide) (by decide)),Oper.upon_value]
     exact ⟨_,rfl,Below.refl _ _,f⟩
   | i+13,ho=>cases ho
 · intro p hp os sv w' g hos J0 p1 p3 hf
   cases hp
 · intro sv w' J0 hF hB hap
   exact hend sv w'  (hF 12 _ 2 rfl rfl (NE _ (by decide)))  J0
theorem closed_c {A:Option Addr} {n c base:Nat} {L:List CV} (hL:SV w A (cvs L)) (hn:L.length=n) (hm:n≤100000) (hnc:n≤c) (hbs:base≤w.heap.size) :
 Calls Tryz.prog 61 #[.slice A n c] w fun e w'=>∃ A' c',e=.returned (.slice A' (n+min 1 n) c')∧SNr 92 base n (cvs (L ++ L.take 1)) w' A'∧Below w.heap.size w w':=by
 rcases Nat.eq_zero_or_pos n with h0 | h0
 · subst h0
   go_enter Tryz.func61,Tryz.ntmps61
   go_upto_region 1 with (fail)
   refine nonec_region (by simp) rfl ?_
   intro V w' hv hh
   simp only [putAll,Act.put,List.setIfInBounds_toArray,List.set_cons_zero,List.set_cons_succ,hv]
   go_wp2_with fail
   (try rw [Exit.noGoto_ret])
   go_ret
   exact ⟨_,_,rfl,fun h=>absurd h (by omega),hh⟩
 · obtain ⟨g,o,rfl,_,_⟩:=hL (by rw [show (cvs L).length=L.length*9 from rows_length cvc_len L,hn];omega)
   go_enter Tryz.func61,Tryz.ntmps61
   go_upto_region 1 with (fail)
   refine closedc_region (by simp) rfl hL hn h0 hm hnc hbs ?_
   intro V w' hF hh
   obtain ⟨A',c',hv,hS⟩:=hF
   simp only [putAll,Act.put,List.setIfInBounds_toArray,List.set_cons_zero,List.set_cons_succ,hv]
   go_wp2_with fail
   (try rw [Exit.noGoto_ret])
   go_ret
   exact ⟨A',c',by rw [show n+min 1 n=n+1 by omega];rfl,hS,hh⟩
end
end Go.Proofs.YtlogpjeoapeojaaGreat
