/- RatLowest: part 9. -/
import Derived.Deep.Cut
import Derived.Deep.CutRange
import Derived.Test.YtmgklaklnaihpaaGreatKRatLowest6
import Derived.Test.YtmgklaklnaihpaaGreatKRatLowest7
import Derived.Test.YtmgklaklnaihpaaGreatKRatLowest8
set_option linter.unusedVariables false
set_option maxRecDepth 100000
set_option maxHeartbeats 16000000
variable {w:Go.World}
variable {s_a:Bool} {A_a B_a:Option Go.Addr} {n_a c_a m_a d_a:Nat}
variable {s_b:Bool} {A_b B_b:Option Go.Addr} {n_b c_b m_b d_b:Nat}
variable {s_x:Bool} {A_x B_x:Option Go.Addr} {n_x c_x m_x d_x:Nat}
namespace Go.Proofs.YtmgklaklnaihpaaGreat
section
open Go Go.RowKit
theorem wpOp_plain' {P:Program} {ops:Array Oper} {Q:Exit→Act→World→Prop} {i:Nat} {o:Oper} {K:Act→World→Prop} {a:Act} (hi:ops[i]?=some o) (hg:o.guard=none) (h:o.wp P a w K Q):wpOp P ops Q i K a w:=by
 unfold wpOp
 rw [hi]
 simp only [Region.wanted,hg,if_true]
 exact .inl h
structure BoxAt (T:TypeId) (w:World) (g:Nat) (cs:Array Value):Prop where
 at_:w.heap[g]?=some (.cells cs T (0,0))
 free:∀ (i:Nat) (k:IntKind) (x:Int),cs[i]? ≠ some (Value.int k x)
section
variable {T:TypeId} {w w':World} {g:Nat} {cs:Array Value}
theorem BoxAt.lt (h:BoxAt T w g cs):g < w.heap.size:=by
 rcases Nat.lt_or_ge g w.heap.size with k | k
 · exact k
 · have:=h.at_;simp [Array.getElem?_eq_none k] at this
theorem BoxAt.below (h:BoxAt T w g cs) (hb:Below w.heap.size w w'):BoxAt T w' g cs:=⟨(hb.block g h.lt).trans h.at_,h.free⟩
theorem BoxAt.offx {K:IntKind} {A:Option Addr} {n:Nat} {l:List Nat} (h:BoxAt T w g cs) (hr:Rd K w A n l):Off A n g:=by
 intro hn ad e hg
 obtain ⟨b,o,eA,hc⟩:=hr.at_ hn
 obtain ⟨y,_,hx⟩:=hc 0 hn
 rw [eA] at e
 cases e
 have hg2:b=g:=hg
 subst hg2
 rw [cell_of_row w b (o+0) _ _ (0,0) h.at_] at hx
 exact h.free _ _ _ hx
theorem NR.box {A:Option Addr} {n c V k:Nat} (h:NR w A n c V k) (B:BoxAt T w g cs) (ho:Only g w w'):NR w' A n c V k:=by
 obtain ⟨l,h1,h2⟩:=h;exact ⟨l,h1.only (B.offx h1) ho,h2⟩
theorem NG.box {A:Option Addr} {n c V k:Nat} (h:NG w A n c V k) (B:BoxAt T w g cs) (ho:Only g w w'):NG w' A n c V k:=⟨h.1.only (B.offx h.1) ho,h.2⟩
theorem ZG.box {s:Bool} {A:Option Addr} {n c k:Nat} {v:Int} (h:ZG w s A n c v k) (B:BoxAt T w g cs) (ho:Only g w w'):ZG w' s A n c v k:=⟨h.1,h.2.1.only (B.offx h.2.1) ho,h.2.2⟩
theorem ZR.box {s:Bool} {A:Option Addr} {n c k:Nat} {v:Int} (h:ZR w s A n c v k) (B:BoxAt T w g cs) (ho:Only g w w'):ZR w' s A n c v k:=by
 obtain ⟨l,h1,h2⟩:=h;exact ⟨l,h1.only (B.offx h1) ho,h2⟩
theorem QG.box {s:Bool} {A A':Option Addr} {n c n' c' k:Nat} {v:Rat} (h:QG w s A n c A' n' c' v k) (B:BoxAt T w g cs) (ho:Only g w w'):QG w' s A n c A' n' c' v k:=⟨h.1.box B ho,h.2.box B ho⟩
theorem QR.box {s:Bool} {A A':Option Addr} {n c n' c' k:Nat} {v:Rat} (h:QR w s A n c A' n' c' v k) (B:BoxAt T w g cs) (ho:Only g w w'):QR w' s A n c A' n' c' v k:=by
 obtain ⟨p,q,h1,h2,h3⟩:=h;exact ⟨p,q,h1.box B ho,h2.box B ho,h3⟩
end
theorem free3 (s:Bool) (A B:Option Addr) (n c m d:Nat):∀ (i:Nat) (k:IntKind) (v:Int),(#[.bool s,.slice A n c,.slice B m d]:Array Value)[i]? ≠ some (.int k v):=by
 intro i k v h
 match i,h with
 | 0,h=>cases h
 | 1,h=>cases h
 | 2,h=>cases h
 | i+3,h=>cases h
def VQ (v:Rat) (k:Nat) (x:Value) (w:World):Prop:=∃ s A n c B m d,x=.agg #[.bool s,.slice A n c,.slice B m d]∧QG w s A n c B m d v k
def VZG (v:Int) (k:Nat) (x:Value) (w:World):Prop:=∃ s A n c,x=.agg #[.bool s,.slice A n c]∧ZG w s A n c v k
def Stays (F:Value→World→Prop):Prop:=(∀ x w w',F x w→Below w.heap.size w w'→F x w')∧∀ (T:TypeId) x w w' g cs,F x w→BoxAt T w g cs→Only g w w'→F x w'
theorem stays_eq (c:Value):Stays (fun x _=>x=c):=⟨fun _ _ _ h _=>h,fun _ _ _ _ _ _ h _ _=>h⟩
theorem stays_true:Stays (fun _ _=>True):=⟨fun _ _ _ h _=>h,fun _ _ _ _ _ _ h _ _=>h⟩
theorem stays_q (v:Rat) (k:Nat):Stays (VQ v k) :=
 ⟨fun _ _ _ ⟨s,A,n,c,B,m,d,h1,h2⟩ hb=>⟨s,A,n,c,B,m,d,h1,h2.below hb⟩,fun _ _ _ _ _ _ ⟨s,A,n,c,B,m,d,h1,h2⟩ hB ho=>⟨s,A,n,c,B,m,d,h1,h2.box hB ho⟩⟩
theorem stays_z (v:Int) (k:Nat):Stays (VZG v k) :=
 ⟨fun _ _ _ ⟨s,A,n,c,h1,h2⟩ hb=>⟨s,A,n,c,h1,h2.below hb⟩,fun _ _ _ _ _ _ ⟨s,A,n,c,h1,h2⟩ hB ho=>⟨s,A,n,c,h1,h2.box hB ho⟩⟩
theorem store_q {ac:Act} {x z:Operand} {y g:Nat} {pos:String} {af:Array Edge} {Q:Exit→Act→World→Prop} {V:Rat} {k:Nat} (p1:ac.eval x=.pointer (some ⟨g,0,none⟩)) (h:VQ V k (ac.eval z) w) (B:BoxAt 26 w g #[.bool false,.slice none 0 0,.slice none 0 0]) :
 (⟨none,.store 26 x z,y,pos,af,none⟩:Oper).wp Tryz.prog ac w (fun a'' w''=>a''=ac∧Only g w w''∧∃ cs',BoxAt 26 w'' g cs'∧(fun cs w=>∃ s A n c B m d,cs=#[.bool s,.slice A n c,.slice B m d]∧QG w s A n c B m d V k) cs' w'') Q:=by
 obtain ⟨s1,A1,n1,c1,B1,m1,d1,h1,h2⟩:=h
 have Z:B3 w g (Value.bool false) (Value.slice none 0 0) (Value.slice none 0 0):=B.at_
 unfold Oper.wp
 rw [run_storeQ p1 h1 Z.c0 Z.c1 Z.c2 Z.f0 Z.f1 Z.f2,Oper.upon_skip]
 refine ⟨put_none ac undef,((((Only.refl g w).setCell 0 _).setCell 1 _).setCell 2 _),#[.bool s1,.slice A1 n1 c1,.slice B1 m1 d1],⟨Z.set3 (Value.bool s1) (Value.slice A1 n1 c1) (Value.slice B1 m1 d1),free3 _ _ _ _ _ _ _⟩,s1,A1,n1,c1,B1,m1,d1,rfl,h2.box B ((((Only.refl g w).setCell 0 _).setCell 1 _).setCell 2 _)⟩
section
variable {P:Program} {ops:Array Oper} {Q:Exit→Act→World→Prop}
theorem once_of {i j:Nat} {oi oj:Oper} {t:Nat}:∀ {l:List Oper},(l.filterMap (·.dst)).Nodup→l[i]?=some oi→l[j]?=some oj→oi.dst=some t→oj.dst=some t→i=j:=by
 intro l
 induction l generalizing i j with
 | nil=>intro _ h;simp at h
 | cons o l ih =>
   intro hn h1 h2 d1 d2
   have mem:∀ {k:Nat} {p:Oper},l[k]?=some p→p.dst=some t→t ∈ l.filterMap (·.dst):=fun h d=>List.mem_filterMap.2 ⟨_,List.mem_of_getElem? h,d⟩
   have hn':(l.filterMap (·.dst)).Nodup:=by
    rw [List.filterMap_cons] at hn
    split at hn
    · exact hn
    · exact (List.nodup_cons.1 hn).2
   match i,j with
   | 0,0=>rfl
   | 0,j+1 =>
     exfalso
     simp at h1
     subst h1
     rw [List.filterMap_cons,d1] at hn
     exact (List.nodup_cons.1 hn).1 (mem (by simpa using h2) d2)
   | i+1,0 =>
     exfalso
     simp at h2
     subst h2
     rw [List.filterMap_cons,d2] at hn
     exact (List.nodup_cons.1 hn).1 (mem (by simpa using h1) d1)
   | i+1,j+1=>exact congrArg (·+1) (ih hn' (by simpa using h1) (by simpa using h2) d1 d2)
end
end
section
open Go Go.RowKit
structure BoxOp where
 ia:Nat
 is:Nat
 tA:Nat
 T:TypeId
 zs:Array Value
 Fst:Array Value→World→Prop
structure JFlows (ops:Array Oper) (w0:World) (L:List BoxOp) (F:Nat→Value→World→Prop) (D:Nat→Bool) (v:Nat→Value) (w':World):Prop where
 below:Below w0.heap.size w0 w'
 vals:∀ (i:Nat) (o:Oper) (t:Nat),ops[i]?=some o→o.dst=some t→(∀ p ∈ L,t ≠ p.tA)→D i=true→F t (v t) w'
 box:∀ p ∈ L,D p.ia=true→∃ g cs,v p.tA=.pointer (some ⟨g,0,none⟩)∧w0.heap.size≤g∧BoxAt p.T w' g cs∧(D p.is=true→p.Fst cs w')∧(D p.is=false→cs=p.zs)
 after:∀ p ∈ L,D p.is=true→D p.ia=true
 apart:∀ p ∈ L,∀ q ∈ L,p.tA ≠ q.tA→D p.ia=true→D q.ia=true→v p.tA ≠ v q.tA
section
variable {P:Program} {ops:Array Oper} {Q:Exit→Act→World→Prop}
structure BoxIn (P:Program) (ops:Array Oper) (p:BoxOp):Prop where
 alloc:∃ oa,ops[p.ia]?=some oa∧oa.dst=some p.tA∧oa.guard=none∧∀ (e:Operand→Value) (w':World),(execOp e oa).run P w'=.ok (.value (.pointer (some ⟨w'.heap.size,0,none⟩))) (w'.alloc (.cells p.zs p.T))
 fill:∃ os,ops[p.is]?=some os∧os.dst=none∧os.guard=none∧∃ e ∈ os.after,Region.binds .any e=true∧e.on=p.ia
 free:∀ (i:Nat) (k:IntKind) (x:Int),p.zs[i]? ≠ some (Value.int k x)
 stays:∀ cs w w',p.Fst cs w→Below w.heap.size w w'→p.Fst cs w'
 stays2:∀ (T:TypeId) cs w w' g c0,p.Fst cs w→BoxAt T w g c0→Only g w w'→p.Fst cs w'
theorem wp_region_flows {id:Nat} {a:Act} {w0:World} (l:List Nat) (L:List BoxOp) (F:Nat→Value→World→Prop)
 (hm:P.follows .mixedOrders=true) (hb:backB ops=true) (hl:ops.toList.filterMap (·.dst)=l) (hn:l.Nodup)
 (hL:∀ p ∈ L,BoxIn P ops p) (hT:∀ p ∈ L,∀ q ∈ L,p.tA=q.tA→p=q) (hS:∀ p ∈ L,∀ q ∈ L,p.is=q.is→p=q)
 (hone:∀ (i:Nat) (o:Oper),ops[i]?=some o→o.dst=none→∃ p ∈ L,p.is=i) (hst:∀ t,Stays (F t))
 (hval:∀ (i:Nat) (o:Oper) (t:Nat) (v:Nat→Value) (w':World),ops[i]?=some o→(∀ p ∈ L,t ≠ p.tA)→o.dst=some t→Below w0.heap.size w0 w' →
  (∀ e ∈ o.after,Region.binds .any e=true→∀ (oe:Oper) (te:Nat),ops[e.on]?=some oe→oe.dst=some te→(∀ p ∈ L,te ≠ p.tA)→F te (v te) w') →
  wpOp P ops Q i (fun a'' w''=>∃ x,a''=(putAll a l v).put (some t) x∧Below w'.heap.size w' w''∧F t x w'') (putAll a l v) w')
 (hstore:∀ p ∈ L,∀ (os:Oper) (v:Nat→Value) (w':World) (g:Nat),ops[p.is]?=some os→Below w0.heap.size w0 w'→v p.tA=.pointer (some ⟨g,0,none⟩)→BoxAt p.T w' g p.zs →
  (∀ e ∈ os.after,Region.binds .any e=true→∀ (oe:Oper) (te:Nat),ops[e.on]?=some oe→oe.dst=some te→(∀ p ∈ L,te ≠ p.tA)→F te (v te) w') →
  os.wp P (putAll a l v) w' (fun a'' w''=>a''=putAll a l v∧Only g w' w''∧∃ cs',BoxAt p.T w'' g cs'∧p.Fst cs' w'') Q)
 (hend:∀ (v:Nat→Value) (w':World),Below w0.heap.size w0 w'→(∀ (i:Nat) (o:Oper) (t:Nat),ops[i]?=some o→o.dst=some t→(∀ p ∈ L,t ≠ p.tA)→F t (v t) w') →
  (∀ p ∈ L,∃ g cs,v p.tA=.pointer (some ⟨g,0,none⟩)∧w0.heap.size≤g∧BoxAt p.T w' g cs∧p.Fst cs w')→(∀ p ∈ L,∀ q ∈ L,p.tA ≠ q.tA→v p.tA ≠ v q.tA)→Q .normal (putAll a l v) w') :
 (Code.region id ops true).wp P Q a w0:=by
 have lt_of:∀ {i:Nat} {o:Oper},ops[i]?=some o→i < ops.size:=fun {i o} h=>by
  rcases Nat.lt_or_ge i ops.size with k | k
  · exact k
  · rw [Array.getElem?_eq_none k] at h;cases h
 have hmem:∀ {i:Nat} {o:Oper} {t:Nat},ops[i]?=some o→o.dst=some t→t ∈ l:=fun {i o t} h d=>by
  rw [← hl];exact List.mem_filterMap.2 ⟨o,List.mem_of_getElem? (by simpa using h),d⟩
 have hinj:∀ {i j:Nat} {oi oj:Oper} {t:Nat},ops[i]?=some oi→ops[j]?=some oj→oi.dst=some t→oj.dst=some t→i=j:=fun {i j oi oj t} h1 h2 d1 d2 =>
  once_of (l:=ops.toList) (by rw [hl];exact hn) (by simpa using h1) (by simpa using h2) d1 d2
 -- a filling operation is no making one,and none that tells a value
 have his:∀ p ∈ L,∀ (i:Nat) (o:Oper) (t:Nat),ops[i]?=some o→o.dst=some t→p.is ≠ i:=by
  intro p hp i o t ho ht q
  obtain ⟨os,h1,h2,_⟩:=(hL p hp).fill
  subst q
  rw [h1] at ho
  cases ho
  rw [h2] at ht
  cases ht
 refine wp_region_inv l (JFlows ops w0 L F) hm hb ?_ ?_ ?_ ?_
 · refine ⟨(Below.refl _ _).drew,?_,?_,?_,?_⟩
   · intro i o t _ _ _ h;exact absurd (show false=true from h) (by decide)
   · intro p _ h;exact absurd (show false=true from h) (by decide)
   · intro p _ h;exact absurd (show false=true from h) (by decide)
   · intro p _ q _ _ h;exact absurd (show false=true from h) (by decide)
 · intro D D' v w hD h
   have ea:∀ p ∈ L,D p.ia=D' p.ia:=fun p hp=>by obtain ⟨oa,h1,_⟩:=(hL p hp).alloc;exact hD _ (lt_of h1)
   have es:∀ p ∈ L,D p.is=D' p.is:=fun p hp=>by obtain ⟨os,h1,_⟩:=(hL p hp).fill;exact hD _ (lt_of h1)
   refine ⟨h.below,fun i o t hi ht hne hd=>h.vals i o t hi ht hne (by rw [hD i (lt_of hi)];exact hd),?_,?_,?_⟩
   · intro p hp;rw [← ea p hp,← es p hp];exact h.box p hp
   · intro p hp;rw [← ea p hp,← es p hp];exact h.after p hp
   · intro p hp q hq;rw [← ea p hp,← ea q hq];exact h.apart p hp q hq
 · intro i o D v w' ho hDi hall J
   cases hd:o.dst with
   | none =>
     obtain ⟨p,hp,rfl⟩:=hone i o ho hd
     obtain ⟨os,h1,h2,hgs,e,he,hbd,hon⟩:=(hL p hp).fill
     rw [h1] at ho
     cases ho
     have hDa:D p.ia=true:=by rw [← hon];exact hall e he hbd
     obtain ⟨g,cs,p1,p2,p3,_,pz⟩:=J.box p hp hDa
     obtain rfl:=pz hDi
     refine wpOp_plain' h1 hgs ?_
     refine Oper.wp_mono ?_ (hstore p hp _ v w' g h1 J.below p1 p3 (fun e he hb' oe te h1 h2 h3=>J.vals e.on oe te h1 h2 h3 (hall e he hb')))
     rintro a'' w'' ⟨rfl,ho2,cs',hB,hF⟩
     have nia:∀ q ∈ L,q.ia ≠ p.is:=fun q hq k=>by
      obtain ⟨oa,k1,k2,_⟩:=(hL q hq).alloc
      exact his p hp q.ia oa q.tA k1 k2 k.symm
     refine ⟨v,rfl,Below.only J.below p2 J.below.size ho2,?_,?_,?_,?_⟩
     · intro j oj t hj ht hne hd2
       have hji:j ≠ p.is:=fun q=>his p hp j oj t hj ht q.symm
       rw [upd_ne _ _ hji] at hd2
       exact (hst t).2 _ _ _ _ _ _ (J.vals j oj t hj ht hne hd2) p3 ho2
     · intro q hq hDq
       rw [upd_ne _ _ (nia q hq)] at hDq
       by_cases hpq:q.tA=p.tA
       · obtain rfl:=hT q hq p hp hpq
         exact ⟨g,cs',p1,p2,hB,fun _=>hF,fun k=>by rw [upd_same] at k;cases k⟩
       · obtain ⟨g2,cs2,r1,r2,r3,r4,r5⟩:=J.box q hq hDq
         have hgg:g2 ≠ g:=fun k=>J.apart q hq p hp hpq hDq hDa (by rw [r1,p1,k])
         have hss:q.is ≠ p.is:=fun k=>hpq (by rw [hS q hq p hp k])
         refine ⟨g2,cs2,r1,r2,⟨(ho2.block g2 r3.lt hgg).trans r3.at_,r3.free⟩,fun k=>?_,fun k=>?_⟩
         · rw [upd_ne _ _ hss] at k
           exact (hL q hq).stays2 _ _ _ _ _ _ (r4 k) p3 ho2
         · rw [upd_ne _ _ hss] at k
           exact r5 k
     · intro q hq k
       rw [upd_ne _ _ (nia q hq)]
       by_cases hss:q.is=p.is
       · obtain rfl:=hS q hq p hp hss
         exact hDa
       · rw [upd_ne _ _ hss] at k
         exact J.after q hq k
     · intro q hq r hr hne k1 k2
       rw [upd_ne _ _ (nia q hq)] at k1
       rw [upd_ne _ _ (nia r hr)] at k2
       exact J.apart q hq r hr hne k1 k2
   | some t =>
     have nis:∀ q ∈ L,q.is ≠ i:=fun q hq=>his q hq i o t ho hd
     by_cases hA:∃ p ∈ L,t=p.tA
     · obtain ⟨p,hp,rfl⟩:=hA
       obtain ⟨oa,h1,h2,hga,halloc⟩:=(hL p hp).alloc
       have hii:i=p.ia:=hinj ho h1 hd h2
       subst hii
       rw [h1] at ho
       cases ho
       refine wpOp_plain' h1 hga ?_
       unfold Oper.wp
       rw [halloc,Oper.upon_value,h2]
       have hbl:=(Below.refl w'.heap.size w').alloc (Nat.le_refl _) (.cells p.zs p.T)
       have hnew:∀ q ∈ L,q.tA ≠ p.tA→q.ia ≠ p.ia:=fun q hq k r=>by
        obtain ⟨ob,k1,k2,_⟩:=(hL q hq).alloc
        rw [r,h1] at k1
        cases k1
        rw [h2] at k2
        exact k (Option.some.inj k2).symm
       refine ⟨_,putAll_put _ _ _ _ _ hn (hmem h1 h2),J.below.trans (hbl.mono J.below.size),?_,?_,?_,?_⟩
       · intro j oj t hj ht hne hd2
         have htp:=hne p hp
         have hji:j ≠ p.ia:=fun q=>htp (by subst q;rw [h1] at hj;cases hj;rw [h2] at ht;cases ht;rfl)
         rw [upd_ne _ _ hji] at hd2;rw [upd_ne _ _ htp]
         exact (hst t).1 _ _ _ (J.vals j oj t hj ht hne hd2) hbl
       · intro q hq hDq
         by_cases hqp:q.tA=p.tA
         · obtain rfl:=hT q hq p hp hqp
           refine ⟨w'.heap.size,q.zs,upd_same _ _ _,J.below.size,⟨heap_alloc_new _ _,(hL q hq).free⟩,fun h=>?_,fun _=>rfl⟩
           rw [upd_ne _ _ (nis q hq)] at h
           have:=J.after q hq h
           rw [hDi] at this
           cases this
         · rw [upd_ne _ _ (hnew q hq hqp)] at hDq
           obtain ⟨g,cs,r1,r2,r3,r4,r5⟩:=J.box q hq hDq
           refine ⟨g,cs,by rw [upd_ne _ _ hqp];exact r1,r2,r3.below hbl,fun h=>?_,fun h=>?_⟩
           · rw [upd_ne _ _ (nis q hq)] at h
             exact (hL q hq).stays _ _ _ (r4 h) hbl
           · rw [upd_ne _ _ (nis q hq)] at h
             exact r5 h
       · intro q hq h
         rw [upd_ne _ _ (nis q hq)] at h
         by_cases hqp:q.tA=p.tA
         · obtain rfl:=hT q hq p hp hqp
           rw [upd_same]
         · rw [upd_ne _ _ (hnew q hq hqp)]
           exact J.after q hq h
       · intro q hq r hr hne k1 k2
         by_cases hqp:q.tA=p.tA
         · obtain rfl:=hT q hq p hp hqp
           have hrp:r.tA ≠ q.tA:=Ne.symm hne
           rw [upd_ne _ _ (hnew r hr hrp)] at k2
           obtain ⟨g,cs,r1,_,r3,_⟩:=J.box r hr k2
           rw [upd_same,upd_ne _ _ hrp,r1]
           intro k
           simp only [Value.pointer.injEq,Option.some.injEq,Addr.mk.injEq] at k
           have:=r3.lt
           omega
         · rw [upd_ne _ _ (hnew q hq hqp)] at k1
           by_cases hrp:r.tA=p.tA
           · obtain rfl:=hT r hr p hp hrp
             obtain ⟨g,cs,r1,_,r3,_⟩:=J.box q hq k1
             rw [upd_same,upd_ne _ _ hqp,r1]
             intro k
             simp only [Value.pointer.injEq,Option.some.injEq,Addr.mk.injEq] at k
             have:=r3.lt
             omega
           · rw [upd_ne _ _ (hnew r hr hrp)] at k2
             rw [upd_ne _ _ hqp,upd_ne _ _ hrp]
             exact J.apart q hq r hr hne k1 k2
     · have htA:∀ p ∈ L,t ≠ p.tA:=fun p hp k=>hA ⟨p,hp,k⟩
       have nia:∀ q ∈ L,q.ia ≠ i:=fun q hq k=>by
        obtain ⟨oa,k1,k2,_⟩:=(hL q hq).alloc
        rw [k,ho] at k1
        cases k1
        rw [hd] at k2
        cases k2
        exact htA q hq rfl
       refine wpOp_mono ?_ (hval i o t v w' ho htA hd J.below (fun e he hb' oe te h1 h2 h3=>J.vals e.on oe te h1 h2 h3 (hall e he hb')))
       rintro a'' w'' ⟨x,rfl,hbl,hF⟩
       refine ⟨_,putAll_put _ _ _ _ _ hn (hmem ho hd),J.below.trans (hbl.mono J.below.size),?_,?_,?_,?_⟩
       · intro j oj t' hj ht hne hd2
         by_cases hji:j=i
         · subst hji
           rw [ho] at hj
           cases hj
           rw [hd] at ht
           cases ht
           rw [upd_same]
           exact hF
         · rw [upd_ne _ _ hji] at hd2
           have htt:t' ≠ t:=fun q=>hji (by subst q;exact hinj hj ho ht hd)
           rw [upd_ne _ _ htt]
           exact (hst t').1 _ _ _ (J.vals j oj t' hj ht hne hd2) hbl
       · intro q hq hDq
         rw [upd_ne _ _ (nia q hq)] at hDq
         obtain ⟨g,cs,r1,r2,r3,r4,r5⟩:=J.box q hq hDq
         refine ⟨g,cs,by rw [upd_ne _ _ (Ne.symm (htA q hq))];exact r1,r2,r3.below hbl,fun h=>?_,fun h=>?_⟩
         · rw [upd_ne _ _ (nis q hq)] at h
           exact (hL q hq).stays _ _ _ (r4 h) hbl
         · rw [upd_ne _ _ (nis q hq)] at h
           exact r5 h
       · intro q hq h
         rw [upd_ne _ _ (nis q hq)] at h
         rw [upd_ne _ _ (nia q hq)]
         exact J.after q hq h
       · intro q hq r hr hne k1 k2
         rw [upd_ne _ _ (nia q hq)] at k1
         rw [upd_ne _ _ (nia r hr)] at k2
         rw [upd_ne _ _ (Ne.symm (htA q hq)),upd_ne _ _ (Ne.symm (htA r hr))]
         exact J.apart q hq r hr hne k1 k2
 · intro D v w' hall J
   refine hend v w' J.below (fun i o t hi ht hne=>J.vals i o t hi ht hne (hall i (lt_of hi))) ?_ ?_
   · intro p hp
     obtain ⟨oa,h1,_⟩:=(hL p hp).alloc
     obtain ⟨os,h2,_⟩:=(hL p hp).fill
     obtain ⟨g,cs,r1,r2,r3,r4,_⟩:=J.box p hp (hall _ (lt_of h1))
     exact ⟨g,cs,r1,r2,r3,r4 (hall _ (lt_of h2))⟩
   · intro p hp q hq hne
     obtain ⟨oa,h1,_⟩:=(hL p hp).alloc
     obtain ⟨ob,h2,_⟩:=(hL q hq).alloc
     exact J.apart p hp q hq hne (hall _ (lt_of h1)) (hall _ (lt_of h2))
end
end
section
open Go Go.RowKit
def B3R (W:World) (g:Nat) (x y z:Value):Prop:=W.heap[g]?=some (.cells #[x,y,z] 37 (0,0))
section
variable {W W':World} {g:Nat} {x y z:Value}
theorem B3R.c0 (h:B3R W g x y z):W.cell? ⟨g,0,none⟩=some x:=by rw [cell_of_row W g 0 _ _ (0,0) h];rfl
theorem B3R.c1 (h:B3R W g x y z):W.cell? ⟨g,1,none⟩=some y:=by rw [cell_of_row W g 1 _ _ (0,0) h];rfl
theorem B3R.c2 (h:B3R W g x y z):W.cell? ⟨g,2,none⟩=some z:=by rw [cell_of_row W g 2 _ _ (0,0) h];rfl
theorem B3R.all (h:B3R W g x y z):W.cell? ⟨g,0,none⟩=some x∧W.cell? ⟨g,1,none⟩=some y∧W.cell? ⟨g,2,none⟩=some z:=⟨h.c0,h.c1,h.c2⟩
theorem B3R.f0 (h:B3R W g x y z):W.frozen? ⟨g,0,none⟩=false:=frozen_of_row W g 0 _ _ h
theorem B3R.f1 (h:B3R W g x y z):W.frozen? ⟨g,1,none⟩=false:=frozen_of_row W g 1 _ _ h
theorem B3R.f2 (h:B3R W g x y z):W.frozen? ⟨g,2,none⟩=false:=frozen_of_row W g 2 _ _ h
theorem B3R.lt (h:B3R W g x y z):g < W.heap.size:=World.block_lt_of_cell? W _ h.c0
theorem B3R.below (h:B3R W g x y z) (hb:Below W.heap.size W W'):B3R W' g x y z:=(hb.block g h.lt).trans h
theorem B3R.alloc (h:B3R W g x y z) (o:Obj):B3R (W.alloc o) g x y z:=(Below.heap_alloc W o g h.lt).trans h
theorem B3R.new' (W:World) (x y z:Value) (g:Nat) (hg:g=W.heap.size):B3R (W.alloc (.cells #[x,y,z] 37)) g x y z:=by subst hg;exact heap_alloc_new W _
theorem B3R.set3 (h:B3R W g x y z) (a b c:Value):B3R (((W.setCell ⟨g,0,none⟩ a).setCell ⟨g,1,none⟩ b).setCell ⟨g,2,none⟩ c) g a b c:=by
 unfold B3R at h ⊢
 simp [World.setCell,Array.getElem?_modify,h]
theorem B3R.offx {s:Bool} {A A1 A2:Option Addr} {n n1 n2 c1 c2:Nat} {K:IntKind} {l:List Nat} (h:B3R W g (.bool s) (.slice A1 n1 c1) (.slice A2 n2 c2)) (hr:Rd K W A n l):Off A n g:=by
 intro hn ad e hg
 obtain ⟨b,o,eA,hc⟩:=hr.at_ hn
 obtain ⟨x,_,hx⟩:=hc 0 hn
 rw [eA] at e
 cases e
 have hg2:b=g:=hg
 subst hg2
 rw [cell_of_row W b (o+0) _ _ (0,0) h] at hx
 match o,hx with
 | 0,hx=>cases hx
 | 1,hx=>cases hx
 | 2,hx=>cases hx
 | o+3,hx=>cases hx
end
def RQ (w:World) (s:Bool) (A:Option Addr) (n c:Nat) (A':Option Addr) (n' c':Nat) (v:Rat) (k:Nat):Prop:=RG w s A n c v.num k∧RN w A' n' c' v.den k
section
variable {w w':World} {s:Bool} {A A':Option Addr} {n c n' c' k g:Nat} {v:Rat}
theorem RQ.below (h:RQ w s A n c A' n' c' v k) (hb:Below w.heap.size w w'):RQ w' s A n c A' n' c' v k:=⟨h.1.below hb,h.2.below hb⟩
theorem RN.only {V:Nat} (h:RN w A n c V k) (ho:Off A n g) (hb:Only g w w'):RN w' A n c V k:=⟨h.1.only ho hb,h.2⟩
theorem RG.only {V:Int} (h:RG w s A n c V k) (ho:Off A n g) (hb:Only g w w'):RG w' s A n c V k:=⟨h.1,h.2.only ho hb⟩
theorem RG.more {V:Int} {k1:Nat} (h:RG w s A n c V k) (hk:k≤k1):RG w s A n c V k1:=⟨h.1,h.2.more hk⟩
theorem RQ.set3 {t:Bool} {A1 A2:Option Addr} {n1 c1 n2 c2:Nat} (h:RQ w s A n c A' n' c' v k) (Z:B3R w g (.bool t) (.slice A1 n1 c1) (.slice A2 n2 c2)) (x y z:Value) :
 RQ (((w.setCell ⟨g,0,none⟩ x).setCell ⟨g,1,none⟩ y).setCell ⟨g,2,none⟩ z) s A n c A' n' c' v k:=by
 have ho:Only g w (((w.setCell ⟨g,0,none⟩ x).setCell ⟨g,1,none⟩ y).setCell ⟨g,2,none⟩ z):=(((Only.refl g w).setCell 0 _).setCell 1 _).setCell 2 _
 exact ⟨h.1.only (Z.offx h.1.2.1) ho,h.2.only (Z.offx h.2.1) ho⟩
end
end
section
open Go Go.RowKit
section
variable {w:World} {s:Bool} {A A':Option Addr} {n c n' c' k k1:Nat} {v:Rat}
theorem RQ.pz (h:RQ w s A n c A' n' c' v k):RZ w s A n c v.num k:=h.1.rz
theorem RQ.more (h:RQ w s A n c A' n' c' v k) (hk:k≤k1):RQ w s A n c A' n' c' v k1:=⟨h.1.more hk,h.2.more hk⟩
end
end
section
open Go Go.RowKit
def VRG (v:Int) (k:Nat) (x:Value) (w:World):Prop:=∃ s A n c,x=.agg #[.bool s,.slice A n c]∧RG w s A n c v k
theorem RG.box {T:TypeId} {w w':World} {g:Nat} {cs:Array Value} {s:Bool} {A:Option Addr} {n c k:Nat} {v:Int} (h:RG w s A n c v k) (B:BoxAt T w g cs) (ho:Only g w w'):RG w' s A n c v k:=h.only (B.offx h.2.1) ho
theorem stays_r (v:Int) (k:Nat):Stays (VRG v k) :=
 ⟨fun _ _ _ ⟨s,A,n,c,h1,h2⟩ hb=>⟨s,A,n,c,h1,h2.below hb⟩,fun _ _ _ _ _ _ ⟨s,A,n,c,h1,h2⟩ hB ho=>⟨s,A,n,c,h1,h2.box hB ho⟩⟩
def VRQ (v:Rat) (k:Nat) (x:Value) (w:World):Prop:=∃ s A n c B m d,x=.agg #[.bool s,.slice A n c,.slice B m d]∧RQ w s A n c B m d v k
theorem RQ.box {T:TypeId} {w w':World} {g:Nat} {cs:Array Value} {s:Bool} {A A':Option Addr} {n c n' c' k:Nat} {v:Rat} (h:RQ w s A n c A' n' c' v k) (B:BoxAt T w g cs) (ho:Only g w w'):RQ w' s A n c A' n' c' v k:=⟨h.1.box B ho,h.2.only (B.offx h.2.1) ho⟩
theorem stays_rq (v:Rat) (k:Nat):Stays (VRQ v k) :=
 ⟨fun _ _ _ ⟨s,A,n,c,B,m,d,h1,h2⟩ hb=>⟨s,A,n,c,B,m,d,h1,h2.below hb⟩,fun _ _ _ _ _ _ ⟨s,A,n,c,B,m,d,h1,h2⟩ hB ho=>⟨s,A,n,c,B,m,d,h1,h2.box hB ho⟩⟩
end
section
open Go Go.RowKit
theorem rats_no {s t:Bool} {A A' B B':Option Addr} {n c n' c' m d m' d':Nat} {la lb lc ld:List Nat} (p:Rd .u64 w A n la) (q:Rd .u64 w A' n' lc) (p2:Rd .u64 w B m lb) (q2:Rd .u64 w B' m' ld) (hn:n≤maxLen) (hi:(s == t && decide (la=lb))=false) :
 Calls Tryz.prog 28 #[.agg #[.bool s,.slice A n c,.slice A' n' c'],.agg #[.bool t,.slice B m d,.slice B' m' d']] w fun e w'=>e=.returned (.bool false)∧Below w.heap.size w w':=by
 have HI:=Lib.hid hi;clear hi
 go_enter Tryz.func28,Tryz.ntmps28
 go_wp2_with fail
 generalize hW:World.alloc _ _=W
 obtain ⟨hb,XA,XB,hzW⟩:=mkbx10_7 hW;clear hW;replace p:=p.below hb;replace q:=q.below hb;replace p2:=p2.below hb;replace q2:=q2.below hb;obtain ⟨xa0,xa1,xa2⟩:=XA.all;obtain ⟨xb0,xb1,xb2⟩:=XB.all
 go_wp2_with (first
  | (go_at_call 79;(with_reducible refine (ints_any s t la lb A B n c m d _ p p2 hn).mono ?_);rintro e w_z ⟨rfl,hh⟩
     rw [HI.out];(try replace p:=p.below hh);(try replace q:=q.below hh);(try replace p2:=p2.below hh);(try replace q2:=q2.below hh);(try replace XA:=XA.below hh);(try replace XB:=XB.below hh);replace hb:=bend hb hh;obtain ⟨xa0,xa1,xa2⟩:=XA.all;obtain ⟨xb0,xb1,xb2⟩:=XB.all))
 go_ret;exact ⟨rfl,hb⟩
theorem rats_yes {s t:Bool} {A A' B B':Option Addr} {n c n' c' m d m' d':Nat} {la lb lc ld:List Nat} (p:Rd .u64 w A n la) (q:Rd .u64 w A' n' lc) (p2:Rd .u64 w B m lb) (q2:Rd .u64 w B' m' ld) (hn:n≤maxLen) (hn':n'≤maxLen) (hi:(s == t && decide (la=lb))=true) :
 Calls Tryz.prog 28 #[.agg #[.bool s,.slice A n c,.slice A' n' c'],.agg #[.bool t,.slice B m d,.slice B' m' d']] w fun e w'=>e=.returned (.bool (decide (lc=ld)))∧Below w.heap.size w w':=by
 have HI:=Lib.hid hi;clear hi
 go_enter Tryz.func28,Tryz.ntmps28
 go_wp2_with fail
 generalize hW:World.alloc _ _=W
 obtain ⟨hb,XA,XB,hzW⟩:=mkbx10_7 hW;clear hW;replace p:=p.below hb;replace q:=q.below hb;replace p2:=p2.below hb;replace q2:=q2.below hb;obtain ⟨xa0,xa1,xa2⟩:=XA.all;obtain ⟨xb0,xb1,xb2⟩:=XB.all
 go_wp2_with (first
  | (go_at_call 79;(with_reducible refine (ints_any s t la lb A B n c m d _ p p2 hn).mono ?_);rintro e w_z ⟨rfl,hh⟩
     rw [HI.out];(try replace p:=p.below hh);(try replace q:=q.below hh);(try replace p2:=p2.below hh);(try replace q2:=q2.below hh);(try replace XA:=XA.below hh);(try replace XB:=XB.below hh);replace hb:=bend hb hh;obtain ⟨xa0,xa1,xa2⟩:=XA.all;obtain ⟨xb0,xb1,xb2⟩:=XB.all)
  | (go_at_call 80;(with_reducible refine (nats_any lc ld A' B' n' c' m' d' _ q q2 hn').mono ?_);rintro e w_z ⟨rfl,jj,rfl⟩
     replace hb:=below_drawn hb jj))
 go_ret;exact ⟨rfl,hb⟩
theorem rats_any {s t:Bool} {A A' B B':Option Addr} {n c n' c' m d m' d':Nat} {la lb lc ld:List Nat} (p:Rd .u64 w A n la) (q:Rd .u64 w A' n' lc) (p2:Rd .u64 w B m lb) (q2:Rd .u64 w B' m' ld) (hn:n≤maxLen) (hn':n'≤maxLen) (r:Bool) (hr:((s == t && decide (la=lb)) && decide (lc=ld))=r) :
 Calls Tryz.prog 28 #[.agg #[.bool s,.slice A n c,.slice A' n' c'],.agg #[.bool t,.slice B m d,.slice B' m' d']] w fun e w'=>e=.returned (.bool r)∧Below w.heap.size w w':=by
 cases h:(s == t && decide (la=lb)) with
 | false =>
   rw [h,Bool.false_and] at hr
   subst hr
   exact rats_no p q p2 q2 hn h
 | true =>
   rw [h,Bool.true_and] at hr
   subst hr
   exact rats_yes p q p2 q2 hn hn' h
end
section
open Go Go.RowKit
theorem ZG.nil (k:Nat):ZG w false none 0 0 0 k:=⟨rfl,by rw [show ((0:Int).natAbs)=0 from rfl,limbs_zero];exact Rd.nil,Nat.le_refl _,Nat.zero_le _⟩
theorem RG.nil (k:Nat):RG w false none 0 0 0 k:=⟨rfl,RN.zero w k⟩
theorem zof_zg (v:Int) (h1:-9223372036854775808≤v) (h2:v < 9223372036854775808) (w:World):Calls Tryz.prog 27 #[.int .i64 v] w (GivesZG w v 1) :=
 (zof_any v h1 h2 w).mono fun e w' h=>h.zg (by rw [Nat.pow_one];unfold B64;omega)
end
section
open Go Go.RowKit
def B6R (W:World) (g:Nat) (x y z u v t:Value):Prop:=W.heap[g]?=some (.cells #[x,y,z,u,v,t] 60 (0,0))
section
variable {W W':World} {g:Nat} {x y z u v t:Value}
theorem B6R.c0 (h:B6R W g x y z u v t):W.cell? ⟨g,0,none⟩=some x:=by rw [cell_of_row W g 0 _ _ (0,0) h];rfl
theorem B6R.c1 (h:B6R W g x y z u v t):W.cell? ⟨g,1,none⟩=some y:=by rw [cell_of_row W g 1 _ _ (0,0) h];rfl
theorem B6R.c2 (h:B6R W g x y z u v t):W.cell? ⟨g,2,none⟩=some z:=by rw [cell_of_row W g 2 _ _ (0,0) h];rfl
theorem B6R.c3 (h:B6R W g x y z u v t):W.cell? ⟨g,3,none⟩=some u:=by rw [cell_of_row W g 3 _ _ (0,0) h];rfl
theorem B6R.c4 (h:B6R W g x y z u v t):W.cell? ⟨g,4,none⟩=some v:=by rw [cell_of_row W g 4 _ _ (0,0) h];rfl
theorem B6R.c5 (h:B6R W g x y z u v t):W.cell? ⟨g,5,none⟩=some t:=by rw [cell_of_row W g 5 _ _ (0,0) h];rfl
theorem B6R.all (h:B6R W g x y z u v t):W.cell? ⟨g,0,none⟩=some x∧W.cell? ⟨g,1,none⟩=some y∧W.cell? ⟨g,2,none⟩=some z∧W.cell? ⟨g,3,none⟩=some u∧W.cell? ⟨g,4,none⟩=some v∧W.cell? ⟨g,5,none⟩=some t:=⟨h.c0,h.c1,h.c2,h.c3,h.c4,h.c5⟩
theorem B6R.f0 (h:B6R W g x y z u v t):W.frozen? ⟨g,0,none⟩=false:=frozen_of_row W g 0 _ _ h
theorem B6R.f1 (h:B6R W g x y z u v t):W.frozen? ⟨g,1,none⟩=false:=frozen_of_row W g 1 _ _ h
theorem B6R.f2 (h:B6R W g x y z u v t):W.frozen? ⟨g,2,none⟩=false:=frozen_of_row W g 2 _ _ h
theorem B6R.f3 (h:B6R W g x y z u v t):W.frozen? ⟨g,3,none⟩=false:=frozen_of_row W g 3 _ _ h
theorem B6R.f4 (h:B6R W g x y z u v t):W.frozen? ⟨g,4,none⟩=false:=frozen_of_row W g 4 _ _ h
theorem B6R.lt (h:B6R W g x y z u v t):g < W.heap.size:=World.block_lt_of_cell? W _ h.c0
theorem B6R.below (h:B6R W g x y z u v t) (hb:Below W.heap.size W W'):B6R W' g x y z u v t:=(hb.block g h.lt).trans h
theorem B6R.alloc (h:B6R W g x y z u v t) (o:Obj):B6R (W.alloc o) g x y z u v t:=(Below.heap_alloc W o g h.lt).trans h
theorem B6R.new' (W:World) (x y z u v t:Value) (g:Nat) (hg:g=W.heap.size):B6R (W.alloc (.cells #[x,y,z,u,v,t] 60)) g x y z u v t:=by subst hg;exact heap_alloc_new W _
end
def RP (w:World) (s:Bool) (A:Option Addr) (n c:Nat) (B:Option Addr) (m d:Nat) (t:Bool) (E:Option Addr) (i e:Nat) (F:Option Addr) (j f:Nat) (x y:Rat) (k:Nat):Prop:=RQ w s A n c B m d x k∧RQ w t E i e F j f y k
section
variable {w w':World} {s t:Bool} {A B E F:Option Addr} {n c m d i e j f k k1:Nat} {x y:Rat}
theorem RP.below (h:RP w s A n c B m d t E i e F j f x y k) (hb:Below w.heap.size w w'):RP w' s A n c B m d t E i e F j f x y k:=⟨h.1.below hb,h.2.below hb⟩
theorem RP.more (h:RP w s A n c B m d t E i e F j f x y k) (hk:k≤k1):RP w s A n c B m d t E i e F j f x y k1:=⟨h.1.more hk,h.2.more hk⟩
end
def BL2 (W:World) (g:Nat) (v0:Value) (v1:Value) (v2:Value) (v3:Value) (v4:Value) (v5:Value) (v6:Value) (v7:Value) (v8:Value) (v9:Value) (v10:Value) (v11:Value):Prop:=W.heap[g]?=some (.cells #[v0,v1,v2,v3,v4,v5,v6,v7,v8,v9,v10,v11] 56 (0,0))
section
variable {W W':World} {g:Nat} {v0 v1 v2 v3 v4 v5 v6 v7 v8 v9 v10 v11:Value}
theorem BL2.c0 (h:BL2 W g v0 v1 v2 v3 v4 v5 v6 v7 v8 v9 v10 v11):W.cell? ⟨g,0,none⟩=some v0:=by rw [cell_of_row W g 0 _ _ (0,0) h];rfl
theorem BL2.c1 (h:BL2 W g v0 v1 v2 v3 v4 v5 v6 v7 v8 v9 v10 v11):W.cell? ⟨g,1,none⟩=some v1:=by rw [cell_of_row W g 1 _ _ (0,0) h];rfl
theorem BL2.c2 (h:BL2 W g v0 v1 v2 v3 v4 v5 v6 v7 v8 v9 v10 v11):W.cell? ⟨g,2,none⟩=some v2:=by rw [cell_of_row W g 2 _ _ (0,0) h];rfl
theorem BL2.c3 (h:BL2 W g v0 v1 v2 v3 v4 v5 v6 v7 v8 v9 v10 v11):W.cell? ⟨g,3,none⟩=some v3:=by rw [cell_of_row W g 3 _ _ (0,0) h];rfl
theorem BL2.c4 (h:BL2 W g v0 v1 v2 v3 v4 v5 v6 v7 v8 v9 v10 v11):W.cell? ⟨g,4,none⟩=some v4:=by rw [cell_of_row W g 4 _ _ (0,0) h];rfl
theorem BL2.c5 (h:BL2 W g v0 v1 v2 v3 v4 v5 v6 v7 v8 v9 v10 v11):W.cell? ⟨g,5,none⟩=some v5:=by rw [cell_of_row W g 5 _ _ (0,0) h];rfl
theorem BL2.c6 (h:BL2 W g v0 v1 v2 v3 v4 v5 v6 v7 v8 v9 v10 v11):W.cell? ⟨g,6,none⟩=some v6:=by rw [cell_of_row W g 6 _ _ (0,0) h];rfl
theorem BL2.c9 (h:BL2 W g v0 v1 v2 v3 v4 v5 v6 v7 v8 v9 v10 v11):W.cell? ⟨g,9,none⟩=some v9:=by rw [cell_of_row W g 9 _ _ (0,0) h];rfl
theorem BL2.lt (h:BL2 W g v0 v1 v2 v3 v4 v5 v6 v7 v8 v9 v10 v11):g < W.heap.size:=World.block_lt_of_cell? W _ h.c0
theorem BL2.below (h:BL2 W g v0 v1 v2 v3 v4 v5 v6 v7 v8 v9 v10 v11) (hb:Below W.heap.size W W'):BL2 W' g v0 v1 v2 v3 v4 v5 v6 v7 v8 v9 v10 v11:=(hb.block g h.lt).trans h
theorem BL2.alloc (h:BL2 W g v0 v1 v2 v3 v4 v5 v6 v7 v8 v9 v10 v11) (o:Obj):BL2 (W.alloc o) g v0 v1 v2 v3 v4 v5 v6 v7 v8 v9 v10 v11:=(Below.heap_alloc W o g h.lt).trans h
end
theorem BL2.new' (W:World) (v0 v1 v2 v3 v4 v5 v6 v7 v8 v9 v10 v11:Value) (g:Nat) (hg:g=W.heap.size):BL2 (W.alloc (.cells #[v0,v1,v2,v3,v4,v5,v6,v7,v8,v9,v10,v11] 56)) g v0 v1 v2 v3 v4 v5 v6 v7 v8 v9 v10 v11:=by subst hg;exact heap_alloc_new W _
def BL3 (W:World) (g:Nat) (v0:Value) (v1:Value) (v2:Value) (v3:Value) (v4:Value) (v5:Value) (v6:Value) (v7:Value) (v8:Value) (v9:Value) (v10:Value) (v11:Value) (v12:Value) (v13:Value) (v14:Value) (v15:Value) (v16:Value) (v17:Value):Prop:=W.heap[g]?=some (.cells #[v0,v1,v2,v3,v4,v5,v6,v7,v8,v9,v10,v11,v12,v13,v14,v15,v16,v17] 56 (0,0))
section
variable {W W':World} {g:Nat} {v0 v1 v2 v3 v4 v5 v6 v7 v8 v9 v10 v11 v12 v13 v14 v15 v16 v17:Value}
theorem BL3.c0 (h:BL3 W g v0 v1 v2 v3 v4 v5 v6 v7 v8 v9 v10 v11 v12 v13 v14 v15 v16 v17):W.cell? ⟨g,0,none⟩=some v0:=by rw [cell_of_row W g 0 _ _ (0,0) h];rfl
theorem BL3.c1 (h:BL3 W g v0 v1 v2 v3 v4 v5 v6 v7 v8 v9 v10 v11 v12 v13 v14 v15 v16 v17):W.cell? ⟨g,1,none⟩=some v1:=by rw [cell_of_row W g 1 _ _ (0,0) h];rfl
theorem BL3.c2 (h:BL3 W g v0 v1 v2 v3 v4 v5 v6 v7 v8 v9 v10 v11 v12 v13 v14 v15 v16 v17):W.cell? ⟨g,2,none⟩=some v2:=by rw [cell_of_row W g 2 _ _ (0,0) h];rfl
theorem BL3.c3 (h:BL3 W g v0 v1 v2 v3 v4 v5 v6 v7 v8 v9 v10 v11 v12 v13 v14 v15 v16 v17):W.cell? ⟨g,3,none⟩=some v3:=by rw [cell_of_row W g 3 _ _ (0,0) h];rfl
theorem BL3.c4 (h:BL3 W g v0 v1 v2 v3 v4 v5 v6 v7 v8 v9 v10 v11 v12 v13 v14 v15 v16 v17):W.cell? ⟨g,4,none⟩=some v4:=by rw [cell_of_row W g 4 _ _ (0,0) h];rfl
theorem BL3.c5 (h:BL3 W g v0 v1 v2 v3 v4 v5 v6 v7 v8 v9 v10 v11 v12 v13 v14 v15 v16 v17):W.cell? ⟨g,5,none⟩=some v5:=by rw [cell_of_row W g 5 _ _ (0,0) h];rfl
theorem BL3.c6 (h:BL3 W g v0 v1 v2 v3 v4 v5 v6 v7 v8 v9 v10 v11 v12 v13 v14 v15 v16 v17):W.cell? ⟨g,6,none⟩=some v6:=by rw [cell_of_row W g 6 _ _ (0,0) h];rfl
theorem BL3.c9 (h:BL3 W g v0 v1 v2 v3 v4 v5 v6 v7 v8 v9 v10 v11 v12 v13 v14 v15 v16 v17):W.cell? ⟨g,9,none⟩=some v9:=by rw [cell_of_row W g 9 _ _ (0,0) h];rfl
theorem BL3.lt (h:BL3 W g v0 v1 v2 v3 v4 v5 v6 v7 v8 v9 v10 v11 v12 v13 v14 v15 v16 v17):g < W.heap.size:=World.block_lt_of_cell? W _ h.c0
theorem BL3.below (h:BL3 W g v0 v1 v2 v3 v4 v5 v6 v7 v8 v9 v10 v11 v12 v13 v14 v15 v16 v17) (hb:Below W.heap.size W W'):BL3 W' g v0 v1 v2 v3 v4 v5 v6 v7 v8 v9 v10 v11 v12 v13 v14 v15 v16 v17:=(hb.block g h.lt).trans h
theorem BL3.alloc (h:BL3 W g v0 v1 v2 v3 v4 v5 v6 v7 v8 v9 v10 v11 v12 v13 v14 v15 v16 v17) (o:Obj):BL3 (W.alloc o) g v0 v1 v2 v3 v4 v5 v6 v7 v8 v9 v10 v11 v12 v13 v14 v15 v16 v17:=(Below.heap_alloc W o g h.lt).trans h
end
theorem BL3.new' (W:World) (v0 v1 v2 v3 v4 v5 v6 v7 v8 v9 v10 v11 v12 v13 v14 v15 v16 v17:Value) (g:Nat) (hg:g=W.heap.size):BL3 (W.alloc (.cells #[v0,v1,v2,v3,v4,v5,v6,v7,v8,v9,v10,v11,v12,v13,v14,v15,v16,v17] 56)) g v0 v1 v2 v3 v4 v5 v6 v7 v8 v9 v10 v11 v12 v13 v14 v15 v16 v17:=by subst hg;exact heap_alloc_new W _
end
section
open Go Go.RowKit
def VPG (x y:Rat) (k:Nat) (v:Value) (w:World):Prop:=∃ s A n c B m d t E i e F j f,v=.agg #[.bool s,.slice A n c,.slice B m d,.bool t,.slice E i e,.slice F j f]∧PG w s A n c B m d t E i e F j f x y k
theorem PG.box {T:TypeId} {w w':World} {g:Nat} {cs:Array Value} {s t:Bool} {A B E F:Option Addr} {n c m d i e j f:Nat} {x y:Rat} {k:Nat} (h:PG w s A n c B m d t E i e F j f x y k) (Z:BoxAt T w g cs) (ho:Only g w w'):PG w' s A n c B m d t E i e F j f x y k:=⟨h.1.box Z ho,h.2.box Z ho⟩
theorem stays_pg (x y:Rat) (k:Nat):Stays (VPG x y k) :=
 ⟨fun _ _ _ ⟨s,A,n,c,B,m,d,t,E,i,e,F,j,f,h1,h2⟩ hb=>⟨s,A,n,c,B,m,d,t,E,i,e,F,j,f,h1,h2.below hb⟩,fun _ _ _ _ _ _ ⟨s,A,n,c,B,m,d,t,E,i,e,F,j,f,h1,h2⟩ hB ho=>⟨s,A,n,c,B,m,d,t,E,i,e,F,j,f,h1,h2.box hB ho⟩⟩
end
section
open Go Go.RowKit
theorem small_k {s:Bool} {A A':Option Addr} {n c n' c':Nat} (w:World) (L:Bool) (hL:decide (n≤12∧n'≤12)=L) :
 Calls Tryz.prog 38 #[.agg #[.bool s,.slice A n c,.slice A' n' c'],.int .i64 12] w fun e w'=>e=.returned (.bool L)∧Below w.heap.size w w':=by
 have HL:=Lib.hid hL;clear hL
 go_enter Tryz.func38,Tryz.ntmps38
 go_wp2_with fail
 generalize hW:World.alloc _ _=W
 obtain ⟨hb,XA,hzW⟩:=mkbx9_7 hW;clear hW;obtain ⟨xa0,xa1,xa2⟩:=XA.all
 go_wp2_with fail
 · have h:(n:Int)≤12:=by assumption
   go_ret
   refine ⟨?_,by first | assumption | exact (Below.refl _ _).alloc (Nat.le_refl _) _⟩
   show Ending.returned (.bool (decide ((n':Int)≤12)))=_
   rw [← HL.out]
   by_cases h2:n'≤12
   · rw [decide_eq_true (show (n':Int)≤12 by omega),decide_eq_true (show n≤12∧n'≤12 by omega)]
   · rw [decide_eq_false (show ¬ (n':Int)≤12 by omega),decide_eq_false (show ¬ (n≤12∧n'≤12) by omega)]
 · have h:(12:Int) < (n:Int):=by assumption
   go_ret
   refine ⟨?_,by first | assumption | exact (Below.refl _ _).alloc (Nat.le_refl _) _⟩
   show Ending.returned (.bool false)=_
   rw [← HL.out,decide_eq_false (show ¬ (n≤12∧n'≤12) by omega)]
theorem qlarge_any (s:Bool) (A A':Option Addr) (n c n' c':Nat) (w:World) (L:Bool) (hL:decide (n≤12∧n'≤12)=L) :
 Calls Tryz.prog 10 #[.agg #[.bool s,.slice A n c,.slice A' n' c']] w fun e w'=>e=.returned (.bool (!L))∧Below w.heap.size w w':=by
 have HL:=Lib.hid hL;clear hL
 go_enter Tryz.func10,Tryz.ntmps10
 go_wp2_with fail
 generalize hW:World.alloc _ _=W
 obtain ⟨hb,XA,hzW⟩:=mkbx9_7 hW;clear hW;obtain ⟨xa0,xa1,xa2⟩:=XA.all
 go_wp2_with (first
  | (go_at_call 38;(with_reducible refine (small_k _ L HL.out).mono ?_);rintro e w_z ⟨rfl,hh⟩
     (try replace XA:=XA.below hh);replace hb:=bend hb hh))
 go_ret;exact ⟨rfl,hb⟩
theorem qlarge_no (s:Bool) (A A':Option Addr) (n c n' c':Nat) (w:World) (h:n≤12∧n'≤12) :
 Calls Tryz.prog 10 #[.agg #[.bool s,.slice A n c,.slice A' n' c']] w fun e w'=>e=.returned (.bool false)∧Below w.heap.size w w' :=
 qlarge_any s A A' n c n' c' w true (decide_eq_true h)
theorem qlarge_yes (s:Bool) (A A':Option Addr) (n c n' c':Nat) (w:World) (h:¬ (n≤12∧n'≤12)) :
 Calls Tryz.prog 10 #[.agg #[.bool s,.slice A n c,.slice A' n' c']] w fun e w'=>e=.returned (.bool true)∧Below w.heap.size w w' :=
 qlarge_any s A A' n c n' c' w false (decide_eq_false h)
theorem QR.of_rd {s:Bool} {A A':Option Addr} {n c n' c' k:Nat} {l l':List Nat} (h:Rd .u64 w A n l) (hL:Lim B64 l) (hnc:n≤c) (h':Rd .u64 w A' n' l') (hL':Lim B64 l') (hnc':n'≤c') (hk:n≤k) (hk':n'≤k) :
 QR w s A n c A' n' c' (mkRat (iv s (val B64 l)) (den1 (val B64 l'))) k:=⟨_,_,ZR.of_rd h hL hnc hk,⟨l',h',hL',rfl,hnc',hk'⟩,rfl⟩
end
section
open Go Go.RowKit
def inQ (v a b:Rat):Prop:=0≤(v - a)*(b - v)
instance (v a b:Rat):Decidable (inQ v a b):=inferInstanceAs (Decidable (_≤_))
end
section
open Go Go.RowKit
structure QV where
 s:Bool
 A:Option Addr
 n:Nat
 c:Nat
 B:Option Addr
 m:Nat
 d:Nat
def QV.cells (p:QV):List Value:=[.bool p.s,.slice p.A p.n p.c,.slice p.B p.m p.d]
def qvs (L:List QV):List Value:=L.flatMap QV.cells
theorem qvs_cons (p:QV) (L:List QV):qvs (p :: L)=p.cells ++ qvs L:=List.flatMap_cons
theorem qvs_get {L:List QV} {i:Nat} {p:QV} (h:L[i]?=some p) {j:Nat} (hj:j < 3):(qvs L)[i*3+j]?=p.cells[j]?:=by
 induction L generalizing i with
 | nil=>cases h
 | cons q L ih =>
   rw [qvs_cons]
   match i with
   | 0 =>
     obtain rfl:q=p:=by simpa using h
     rw [List.getElem?_append_left (show 0*3+j < q.cells.length by show _ < 3;omega)]
     congr 1;omega
   | i+1 =>
     rw [List.getElem?_append_right (show q.cells.length≤(i+1)*3+j by show 3≤_;omega)]
     rw [show (i+1)*3+j - q.cells.length=i*3+j by show (i+1)*3+j - 3=_;omega]
     exact ih h
def SlQ (w:World) (g:Nat) (L:List QV):Prop:=w.heap[g]?=some (.cells (qvs L).toArray 26 (0,0))
def E3 (w:World) (g o:Nat) (x y z:Value):Prop:=g < w.heap.size∧w.cell? ⟨g,o,none⟩=some x∧w.cell? ⟨g,o+1,none⟩=some y∧w.cell? ⟨g,o+2,none⟩=some z
section
variable {w w':World} {g o:Nat} {L:List QV} {x y z:Value}
theorem SlQ.lt (h:SlQ w g L):g < w.heap.size:=by
 rcases Nat.lt_or_ge g w.heap.size with q | q
 · exact q
 · unfold SlQ at h;rw [Array.getElem?_eq_none q] at h;cases h
theorem SlQ.below (h:SlQ w g L) (hb:Below w.heap.size w w'):SlQ w' g L:=(hb.block g h.lt).trans h
theorem E3.below (h:E3 w g o x y z) (hb:Below w.heap.size w w'):E3 w' g o x y z :=
 ⟨Nat.lt_of_lt_of_le h.1 hb.size,(hb.cell (p:=⟨g,o,none⟩) h.1).trans h.2.1,(hb.cell (p:=⟨g,o+1,none⟩) h.1).trans h.2.2.1,(hb.cell (p:=⟨g,o+2,none⟩) h.1).trans h.2.2.2⟩
theorem E3.c0 (h:E3 w g o x y z):w.cell? ⟨g,o,none⟩=some x:=h.2.1
theorem E3.c1 (h:E3 w g o x y z):w.cell? ⟨g,o+1,none⟩=some y:=h.2.2.1
theorem E3.c2 (h:E3 w g o x y z):w.cell? ⟨g,o+2,none⟩=some z:=h.2.2.2
theorem E3.all (h:E3 w g o x y z):w.cell? ⟨g,o,none⟩=some x∧w.cell? ⟨g,o+1,none⟩=some y∧w.cell? ⟨g,o+2,none⟩=some z:=⟨h.c0,h.c1,h.c2⟩
theorem SlQ.at_ (h:SlQ w g L) {i:Nat} {p:QV} (hi:L[i]?=some p):E3 w g (i*3) (.bool p.s) (.slice p.A p.n p.c) (.slice p.B p.m p.d):=by
 have key:∀ j,j < 3→w.cell? ⟨g,i*3+j,none⟩=p.cells[j]?:=fun j hj=>by
  rw [cell_of_row w g (i*3+j) _ _ (0,0) h,← qvs_get hi hj];simp
 exact ⟨h.lt,key 0 (by decide),key 1 (by decide),key 2 (by decide)⟩
end
theorem idx_q {g n c i:Nat} (h:i < n) (w:World):(Instr.indexAt 49 (.slice (some ⟨g,0,none⟩) n c) (.int .i64 (i:Int))).run Tryz.prog w=.ok (.pointer (some ⟨g,i*3,none⟩)) w:=by
 have ha:∀ j,(⟨g,0,none⟩:Addr).add j=⟨g,j,none⟩:=fun j=>by unfold Addr.add;split <;> simp_all
 obtain ⟨i0,hi,hz,hs,hby⟩:=info_parts (show (Tryz.prog.info? 26).map (fun i=>(i.zero,i.size,i.bytes))=some (some (.agg #[.bool false,.slice none 0 0,.slice none 0 0]),3,56) by kernel_rfl)
 have h1:(0:Int)≤(i:Int):=by omega
 have h2:(i:Int) < (n:Int):=by omega
 simp [Instr.indexAt,asIntOf,run_underlying Tryz.underlying49,h1,sizeOf,typeInfo,hi,hs,ha]
 exact fun e=>absurd h (by omega)
theorem low_mul {v:Rat} {n:Int} (hn:n ≠ 0):Rat.divInt (v.num*n) ((v.den:Int)*n)=v:=by
 rw [Rat.divInt_mul_right hn];exact Rat.num_divInt_den v
theorem rats_same {s t:Bool} {A A' B B':Option Addr} {n c n' c' m d m' d' k k2:Nat} {v:Rat} (p:QG w s A n c A' n' c' v k) (q:QG w t B m d B' m' d' v k2) (hk:k≤100000) :
 Calls Tryz.prog 28 #[.agg #[.bool s,.slice A n c,.slice A' n' c'],.agg #[.bool t,.slice B m d,.slice B' m' d']] w fun e w'=>e=.returned (.bool true)∧Below w.heap.size w w':=by
 obtain ⟨⟨h1,h2,h3,h4⟩,⟨g2,g3,g4⟩⟩:=p
 obtain ⟨⟨e1,e2,_,_⟩,⟨f2,_,_⟩⟩:=q
 have hm:(100000:Nat)≤maxLen:=by unfold maxLen;omega
 exact rats_any h2 g2 e2 f2 (by omega) (by omega) true (by rw [h1,e1];simp)
theorem qg_den {s:Bool} {A A':Option Addr} {n c n' c' k:Nat} {v:Rat} (p:QG w s A n c A' n' c' v k):((n':Int) == 0)=false:=by
 obtain ⟨_,⟨g2,_,_⟩⟩:=p
 have h:=v.den_pos
 have hl:n'=(limbs B64 v.den).length:=g2.1.symm
 rw [limbs_pos B64_two (by omega),List.length_cons] at hl
 simp;omega
end
section
open Go Go.RowKit
theorem low_of {k:Nat} (hk:k≤65535) (w:World):Calls Tryz.prog 23 #[.int .i64 (IntKind.i64.wrap (IntKind.i64.wrap (k:Int)*6)),.int .i64 4] w (GivesQ w (Rat.divInt ((k:Int)*6) 4) 1):=by
 rw [IntWalk.i64_in (k:Int) (by omega),IntWalk.i64_in ((k:Int)*6) (by omega)]
 exact rof_q ((k:Int)*6) 4 (by omega) (by omega) (by decide) (by decide) (by decide) w
theorem low_l1 (k:Nat) (hl:¬ (n_a≤12∧m_a≤12)) :
 Calls Tryz.prog 4 #[.agg #[.bool s_a,.slice A_a n_a c_a,.slice B_a m_a d_a],.agg #[.bool s_b,.slice A_b n_b c_b,.slice B_b m_b d_b],.int .u16 (k:Int)] w fun e w'=>e=.returned (.bool true)∧Below w.heap.size w w':=by
 have HL:=Lib.hid hl;clear hl
 go_enter Tryz.func4,Tryz.ntmps4
 go_wp2_with fail
 generalize hW:World.alloc _ _=W
 obtain ⟨hb,XA,XB,hzW⟩:=mkbx10_7 hW;clear hW;obtain ⟨xa0,xa1,xa2⟩:=XA.all;obtain ⟨xb0,xb1,xb2⟩:=XB.all
 go_wp2_with (first
  | (go_at_call 10;(with_reducible refine (qlarge_yes s_a A_a B_a n_a c_a m_a d_a _ HL.out).mono ?_);rintro e w_z ⟨rfl,hh⟩
     (try replace XA:=XA.below hh);(try replace XB:=XB.below hh);replace hb:=bend hb hh;obtain ⟨xa0,xa1,xa2⟩:=XA.all;obtain ⟨xb0,xb1,xb2⟩:=XB.all)
  | (go_at_call 11;(with_reducible refine (qwakes_any _).mono ?_);rintro e w_z ⟨rfl,hh⟩
     (try replace XA:=XA.below hh);(try replace XB:=XB.below hh);replace hb:=bend hb hh))
 go_ret;exact ⟨rfl,hb⟩
theorem low_l2 (k:Nat) (h1:n_a≤12∧m_a≤12) (hl:¬ (n_b≤12∧m_b≤12)) :
 Calls Tryz.prog 4 #[.agg #[.bool s_a,.slice A_a n_a c_a,.slice B_a m_a d_a],.agg #[.bool s_b,.slice A_b n_b c_b,.slice B_b m_b d_b],.int .u16 (k:Int)] w fun e w'=>e=.returned (.bool true)∧Below w.heap.size w w':=by
 have H1:=Lib.hid h1;clear h1;have HL:=Lib.hid hl;clear hl
 go_enter Tryz.func4,Tryz.ntmps4
 go_wp2_with fail
 generalize hW:World.alloc _ _=W
 obtain ⟨hb,XA,XB,hzW⟩:=mkbx10_7 hW;clear hW;obtain ⟨xa0,xa1,xa2⟩:=XA.all;obtain ⟨xb0,xb1,xb2⟩:=XB.all
 go_wp2_with (first
  | (go_at_call 10;(with_reducible refine (qlarge_no s_a A_a B_a n_a c_a m_a d_a _ H1.out).mono ?_);rintro e w_z ⟨rfl,hh⟩
     (try replace XA:=XA.below hh);(try replace XB:=XB.below hh);replace hb:=bend hb hh;obtain ⟨xa0,xa1,xa2⟩:=XA.all;obtain ⟨xb0,xb1,xb2⟩:=XB.all)
  | (go_at_call 10;(with_reducible refine (qlarge_yes s_b A_b B_b n_b c_b m_b d_b _ HL.out).mono ?_);rintro e w_z ⟨rfl,hh⟩
     (try replace XA:=XA.below hh);(try replace XB:=XB.below hh);replace hb:=bend hb hh;obtain ⟨xa0,xa1,xa2⟩:=XA.all;obtain ⟨xb0,xb1,xb2⟩:=XB.all)
  | (go_at_call 11;(with_reducible refine (qwakes_any _).mono ?_);rintro e w_z ⟨rfl,hh⟩
     (try replace XA:=XA.below hh);(try replace XB:=XB.below hh);replace hb:=bend hb hh))
 go_ret;exact ⟨rfl,hb⟩
def VQE1 (V:Rat) (k:Nat) (x:Value) (w:World):Prop:=∃ s A n c B m d,x=.tuple #[.agg #[.bool s,.slice A n c,.slice B m d],.int .i64 0]∧QG w s A n c B m d V k
theorem stays_q1 (v:Rat) (k:Nat):Stays (VQE1 v k) :=
 ⟨fun _ _ _ ⟨s,A,n,c,B,m,d,h1,h2⟩ hb=>⟨s,A,n,c,B,m,d,h1,h2.below hb⟩,fun _ _ _ _ _ _ ⟨s,A,n,c,B,m,d,h1,h2⟩ hB ho=>⟨s,A,n,c,B,m,d,h1,h2.box hB ho⟩⟩
theorem QG.zP {s:Bool} {A A':Option Addr} {n c n' c' k:Nat} {v:Rat} (h:QG w s A n c A' n' c' v k):ZR w s A n c v.num k:=h.1.zr
theorem QG.zQ {s:Bool} {A A':Option Addr} {n c n' c' k:Nat} {v:Rat} (h:QG w s A n c A' n' c' v k):ZR w false A' n' c' (v.den:Int) k:=ZR.ofn (s:=false) h.2.nr
theorem run_iq {e1:Operand→Value} {x1:Operand} {d1:Option Tmp} {y1:Nat} {pos:String} {af:Array Edge} {g m:Nat} {x2:Operand} (h:e1 x1=.slice (some ⟨g,0,none⟩) 6 6) (h2:e1 x2=.int .i64 (m:Int)) (hm:m < 6) :
 (execOp e1 ⟨d1,.indexAddr 49 x1 x2,y1,pos,af,none⟩).run Tryz.prog w=.ok (.value (.pointer (some ⟨g,m*3,none⟩))) w:=by
 have h1:=idx_q (g:=g) (n:=6) (c:=6) hm w
 go_simp
theorem run_fq0 {e1:Operand→Value} {x1:Operand} {d1:Option Tmp} {y1:Nat} {pos:String} {af:Array Edge} {g m:Nat} (h:e1 x1=.pointer (some ⟨g,m*3,none⟩)) :
 (execOp e1 ⟨d1,.fieldAddr 26 x1 0,y1,pos,af,none⟩).run Tryz.prog w=.ok (.value (.pointer (some ⟨g,m*3,none⟩))) w:=by
 go_simp
theorem run_fq1 {e1:Operand→Value} {x1:Operand} {d1:Option Tmp} {y1:Nat} {pos:String} {af:Array Edge} {g m:Nat} (h:e1 x1=.pointer (some ⟨g,m*3,none⟩)) :
 (execOp e1 ⟨d1,.fieldAddr 26 x1 1,y1,pos,af,none⟩).run Tryz.prog w=.ok (.value (.pointer (some ⟨g,m*3+2,none⟩))) w:=by
 go_simp
theorem run_lqP {e1:Operand→Value} {x1:Operand} {d1:Option Tmp} {y1:Nat} {pos:String} {af:Array Edge} {g m:Nat} {u v t:Value} (h:e1 x1=.pointer (some ⟨g,m*3,none⟩)) (E:E3 w g (m*3) u v t) :
 (execOp e1 ⟨d1,.load 24 x1,y1,pos,af,none⟩).run Tryz.prog w=.ok (.value (.agg #[u,v])) w:=by
 obtain ⟨c0,c1⟩:=E.all
 go_simp
theorem run_lqQ {e1:Operand→Value} {x1:Operand} {d1:Option Tmp} {y1:Nat} {pos:String} {af:Array Edge} {g m:Nat} {u v t:Value} (h:e1 x1=.pointer (some ⟨g,m*3+2,none⟩)) (E:E3 w g (m*3) u v t) :
 (execOp e1 ⟨d1,.load 22 x1,y1,pos,af,none⟩).run Tryz.prog w=.ok (.value t) w:=by
 have c2:=E.c2
 go_simp
theorem run_bq {e1:Operand→Value} {x1:Operand} {d1:Option Tmp} {y1:Nat} {pos:String} {af:Array Edge} {A:Option Addr} {n c:Nat} (h:e1 x1=.slice A n c) :
 (execOp e1 ⟨d1,.build 24 #[(1,x1)],y1,pos,af,none⟩).run Tryz.prog w=.ok (.value (.agg #[.bool false,.slice A n c])) w:=by
 go_simp
theorem low_make {s t:Bool} {A B:Option Addr} {n c m d:Nat} {v:Rat} {N:Int} (hN:1≤N) (X:ZR w s A n c (v.num*N) 26) (Y:ZR w t B m d ((v.den:Int)*N) 26) :
 Calls Tryz.prog 25 #[.agg #[.bool s,.slice A n c],.agg #[.bool t,.slice B m d]] w (GivesQE w v 26):=by
 have h:=make_zr 26 X Y (by decide) (by decide) (Int.ne_of_gt (Int.mul_pos (by have:=v.den_pos;omega) (by omega))) (Nat.le_refl _) (Nat.le_refl _)
 rwa [low_mul (by omega)] at h
abbrev L_low10:List Nat:=[62,63,64,65,66,67,68,69,70,71,72,73,74,75,76,77,78,79,61,80,81,10,11]
def o0_low10:Oper:=⟨some 62,.move (.tmp 8),49, "law.go:128",#[],none⟩
def o1_low10:Oper:=⟨some 63,.move (.tmp 9),3, "law.go:128",#[],none⟩
def o2_low10:Oper:=⟨some 64,.indexAddr 49 (.tmp 62) (.tmp 63),0, "law.go:128",#[⟨0,.data⟩,⟨1,.data⟩],none⟩
def o3_low10:Oper:=⟨some 65,.fieldAddr 26 (.tmp 64) 0,0, "law.go:128",#[⟨2,.data⟩],none⟩
def o4_low10:Oper:=⟨some 66,.load 24 (.tmp 65),24, "law.go:128",#[⟨3,.data⟩],none⟩
def o5_low10:Oper:=⟨some 67,.move (.tmp 7),2, "law.go:128",#[],none⟩
def o6_low10:Oper:=⟨some 68,.call ⟨.value (.func 27),#[.tmp 67],#[2]⟩,24, "law.go:128",#[⟨5,.data⟩],none⟩
def o7_low10:Oper:=⟨some 69,.call ⟨.value (.func 26),#[.tmp 66,.tmp 68],#[24,24]⟩,24, "law.go:128",#[⟨4,.data⟩,⟨6,.data⟩,⟨6,.chain⟩],none⟩
def o8_low10:Oper:=⟨some 70,.move (.tmp 8),49, "law.go:128",#[],none⟩
def o9_low10:Oper:=⟨some 71,.move (.tmp 9),3, "law.go:128",#[],none⟩
def o10_low10:Oper:=⟨some 72,.indexAddr 49 (.tmp 70) (.tmp 71),0, "law.go:128",#[⟨8,.data⟩,⟨9,.data⟩],none⟩
def o11_low10:Oper:=⟨some 73,.fieldAddr 26 (.tmp 72) 1,0, "law.go:128",#[⟨10,.data⟩],none⟩
def o12_low10:Oper:=⟨some 74,.load 22 (.tmp 73),22, "law.go:128",#[⟨11,.data⟩],none⟩
def o13_low10:Oper:=⟨some 75,.build 24 #[(1,.tmp 74)],24, "law.go:128",#[⟨12,.data⟩],none⟩
def o14_low10:Oper:=⟨some 76,.move (.tmp 7),2, "law.go:128",#[],none⟩
def o15_low10:Oper:=⟨some 77,.call ⟨.value (.func 27),#[.tmp 76],#[2]⟩,24, "law.go:128",#[⟨14,.data⟩,⟨7,.chain⟩],none⟩
def o16_low10:Oper:=⟨some 78,.call ⟨.value (.func 26),#[.tmp 75,.tmp 77],#[24,24]⟩,24, "law.go:128",#[⟨13,.data⟩,⟨15,.data⟩,⟨15,.chain⟩],none⟩
def o17_low10:Oper:=⟨some 79,.call ⟨.value (.func 25),#[.tmp 69,.tmp 78],#[24,24]⟩,30, "law.go:128",#[⟨7,.data⟩,⟨16,.data⟩,⟨16,.chain⟩],none⟩
def o18_low10:Oper:=⟨some 61,.move (.tmp 79),30, "law.go:128",#[⟨17,.data⟩],none⟩
def o19_low10:Oper:=⟨some 80,.extract (.tmp 61) 0,26, "law.go:128",#[⟨18,.data⟩],none⟩
def o20_low10:Oper:=⟨some 81,.extract (.tmp 61) 1,29, "law.go:128",#[⟨18,.data⟩,⟨22,.gcOnly .lateStores⟩],none⟩
def o21_low10:Oper:=⟨some 10,.alloc 26,0, "law.go:128",#[],none⟩
def o22_low10:Oper:=⟨none,.store 26 (.tmp 10) (.tmp 80),0, "law.go:128",#[⟨21,.data⟩,⟨19,.data⟩,⟨17,.chain⟩,⟨0,.phase⟩,⟨1,.phase⟩,⟨2,.phase⟩,⟨3,.phase⟩,⟨4,.phase⟩,⟨5,.phase⟩,⟨6,.phase⟩,⟨7,.phase⟩,⟨8,.phase⟩,⟨9,.phase⟩,⟨10,.phase⟩,⟨11,.phase⟩,⟨12,.phase⟩,⟨13,.phase⟩,⟨14,.phase⟩,⟨15,.phase⟩,⟨16,.phase⟩,⟨17,.phase⟩,⟨18,.phase⟩,⟨19,.phase⟩,⟨20,.textOnly .lateStores⟩,⟨21,.phase⟩],none⟩
def o23_low10:Oper:=⟨some 11,.assign (.tmp 81),29, "law.go:128",#[⟨20,.data⟩,⟨22,.chain⟩,⟨0,.phase⟩,⟨1,.phase⟩,⟨2,.phase⟩,⟨3,.phase⟩,⟨4,.phase⟩,⟨5,.phase⟩,⟨6,.phase⟩,⟨7,.phase⟩,⟨8,.phase⟩,⟨9,.phase⟩,⟨10,.phase⟩,⟨11,.phase⟩,⟨12,.phase⟩,⟨13,.phase⟩,⟨14,.phase⟩,⟨15,.phase⟩,⟨16,.phase⟩,⟨17,.phase⟩,⟨18,.phase⟩,⟨19,.phase⟩,⟨20,.phase⟩,⟨21,.phase⟩,⟨22,.phase⟩],none⟩
theorem rc_gesso_zed_Of {e:Operand→Value} {x0:Operand} {d:Option Tmp} {y:Nat} {pos:String} {af:Array Edge} {u0:Value} (h0:e x0=u0) (hf:e (.func 27)=.func (.func 27) #[] #[]) :
 (execOp e ⟨d,.call ⟨.value (.func 27),#[x0],#[2]⟩,y,pos,af,none⟩).run Tryz.prog w=.ok (.enter 27 #[u0]) w:=by
 go_simp
theorem rc_gesso_zed_Mul {e:Operand→Value} {x0 x1:Operand} {d:Option Tmp} {y:Nat} {pos:String} {af:Array Edge} {u0 u1:Value} (h0:e x0=u0) (h1:e x1=u1) (hf:e (.func 26)=.func (.func 26) #[] #[]) :
 (execOp e ⟨d,.call ⟨.value (.func 26),#[x0,x1],#[24,24]⟩,y,pos,af,none⟩).run Tryz.prog w=.ok (.enter 26 #[u0,u1]) w:=by
 go_simp
theorem rc_gesso_rat_Make {e:Operand→Value} {x0 x1:Operand} {d:Option Tmp} {y:Nat} {pos:String} {af:Array Edge} {u0 u1:Value} (h0:e x0=u0) (h1:e x1=u1) (hf:e (.func 25)=.func (.func 25) #[] #[]) :
 (execOp e ⟨d,.call ⟨.value (.func 25),#[x0,x1],#[24,24]⟩,y,pos,af,none⟩).run Tryz.prog w=.ok (.enter 25 #[u0,u1]) w:=by
 go_simp
def F_low10 (s_x:Bool) (A_x:Option Addr) (B_x:Option Addr) (n_x:Nat) (c_x:Nat) (m_x:Nat) (d_x:Nat) (xv:Rat) (gl:Nat) (mi:Nat) (nv:Int) (sl:Nat):Value→World→Prop :=
 match sl with
 | 62=>fun x _=>x=Value.slice (some ⟨gl,0,none⟩) 6 6
 | 63=>fun x _=>x=Value.int .i64 (mi:Int)
 | 64=>fun x _=>x=Value.pointer (some ⟨gl,mi*3,none⟩)
 | 65=>fun x _=>x=Value.pointer (some ⟨gl,mi*3,none⟩)
 | 66=>fun x _=>x=Value.agg #[.bool s_x,.slice A_x n_x c_x]
 | 67=>fun x _=>x=Value.int .i64 nv
 | 68=>VZG (nv) (1)
 | 69=>VZG (xv.num*nv) (26)
 | 70=>fun x _=>x=Value.slice (some ⟨gl,0,none⟩) 6 6
 | 71=>fun x _=>x=Value.int .i64 (mi:Int)
 | 72=>fun x _=>x=Value.pointer (some ⟨gl,mi*3,none⟩)
 | 73=>fun x _=>x=Value.pointer (some ⟨gl,mi*3+2,none⟩)
 | 74=>fun x _=>x=Value.slice B_x m_x d_x
 | 75=>fun x _=>x=Value.agg #[.bool false,.slice B_x m_x d_x]
 | 76=>fun x _=>x=Value.int .i64 nv
 | 77=>VZG (nv) (1)
 | 78=>VZG ((xv.den:Int)*nv) (26)
 | 79=>VQE1 (xv) (26)
 | 61=>VQE1 (xv) (26)
 | 80=>VQ (xv) (26)
 | 81=>fun x _=>x=Value.int .i64 0
 | 11=>fun x _=>x=Value.int .i64 0
 | _=>fun _ _=>True
def B0_low10 (xv:Rat):BoxOp :=
 ⟨21,22,10,26,#[.bool false,.slice none 0 0,.slice none 0 0],fun cs w=>∃ s A n c B m d,cs=#[.bool s,.slice A n c,.slice B m d]∧QG w s A n c B m d (xv) (26)⟩
theorem low10_region {id:Nat} {ac:Act} {Q:Exit→Act→World→Prop} {xv:Rat} {gl mi:Nat} {nv:Int}
 (hsz:81 < ac.tmps.size) (e8:ac.eval (.tmp 8)=Value.slice (some ⟨gl,0,none⟩) 6 6) (e9:ac.eval (.tmp 9)=Value.int .i64 (mi:Int)) (e7:ac.eval (.tmp 7)=Value.int .i64 nv) (EX:E3 w gl (mi*3) (.bool s_x) (.slice A_x n_x c_x) (.slice B_x m_x d_x)) (x:QG w s_x A_x n_x c_x B_x m_x d_x xv 25) (hmi:mi < 6) (hn1:1≤nv) (hn2:nv≤65536)
 (hend:∀ (V:Nat→Value) (w':World) (g0:Nat) (s0:Bool) (A0:Option Addr) (n0:Nat) (c0:Nat) (B0:Option Addr) (m0:Nat) (d0:Nat),QG w' s0 A0 n0 c0 B0 m0 d0 (xv) (26)→B3 w' g0 (.bool s0) (.slice A0 n0 c0) (.slice B0 m0 d0)→w.heap.size≤g0→V 10=.pointer (some ⟨g0,0,none⟩)→V 11=Value.int .i64 0→Below w.heap.size w w'→Q .normal (putAll ac [62,63,64,65,66,67,68,69,70,71,72,73,74,75,76,77,78,79,61,80,81,10,11] V) w') :
 (Code.region id #[o0_low10,o1_low10,o2_low10,o3_low10,o4_low10,o5_low10,o6_low10,o7_low10,o8_low10,o9_low10,o10_low10,o11_low10,o12_low10,o13_low10,o14_low10,o15_low10,o16_low10,o17_low10,o18_low10,o19_low10,o20_low10,o21_low10,o22_low10,o23_low10] true).wp Tryz.prog Q ac w:=by
 have hnd:L_low10.Nodup:=by decide
 have G:∀ (sv:Nat→Value) (t:Nat),t ∈ L_low10→t≤81→(putAll ac L_low10 sv).eval (.tmp t)=sv t:=fun sv t ht h=>eval_putAll_mem (t:=t) L_low10 ac hnd ht (Nat.lt_of_le_of_lt h hsz)
 have E8:∀ sv:Nat→Value,(putAll ac L_low10 sv).eval (.tmp 8)=Value.slice (some ⟨gl,0,none⟩) 6 6:=fun sv=>(eval_putAll_not (v:=sv) L_low10 ac (show 8 ∉ _ by decide)).trans e8
 have E9:∀ sv:Nat→Value,(putAll ac L_low10 sv).eval (.tmp 9)=Value.int .i64 (mi:Int):=fun sv=>(eval_putAll_not (v:=sv) L_low10 ac (show 9 ∉ _ by decide)).trans e9
 have E7:∀ sv:Nat→Value,(putAll ac L_low10 sv).eval (.tmp 7)=Value.int .i64 nv:=fun sv=>(eval_putAll_not (v:=sv) L_low10 ac (show 7 ∉ _ by decide)).trans e7
 have NE:∀ t:Nat,(t ≠ 10)→∀ p ∈ [B0_low10 xv],t ≠ p.tA:=by
  intro t ht p hp
  simp only [List.mem_cons,List.not_mem_nil,or_false] at hp
  rcases hp with rfl
  · exact ht
 refine wp_region_flows L_low10 [B0_low10 xv] (F_low10 s_x A_x B_x n_x c_x m_x d_x xv gl mi nv) (by kernel_rfl) (by kernel_rfl) rfl hnd ?_ ?_ ?_ ?_ ?_ ?_ ?_ ?_
 · intro p hp
   simp only [List.mem_cons,List.not_mem_nil,or_false] at hp
   rcases hp with rfl
   · refine ⟨⟨o21_low10,rfl,rfl,rfl,fun e w'=>run_allocQ⟩,⟨o22_low10,rfl,rfl,rfl,⟨21,.data⟩,by simp [o22_low10],rfl,rfl⟩,free3 _ _ _ _ _ _ _,?_,?_⟩
     · rintro cs w1 w2 ⟨s_,A_,n_,c_,B_,m_,d_,rfl,h⟩ hb;exact ⟨s_,A_,n_,c_,B_,m_,d_,rfl,h.below hb⟩
     · rintro T cs w1 w2 g c0 ⟨s_,A_,n_,c_,B_,m_,d_,rfl,h⟩ hB ho;exact ⟨s_,A_,n_,c_,B_,m_,d_,rfl,h.box hB ho⟩
 · intro p hp q hq h
   simp only [List.mem_cons,List.not_mem_nil,or_false] at hp hq
   rcases hp with rfl <;> rcases hq with rfl
   · rfl
 · intro p hp q hq h
   simp only [List.mem_cons,List.not_mem_nil,or_false] at hp hq
   rcases hp with rfl <;> rcases hq with rfl
   · rfl
 · intro i o h1 h2
   match i,h1 with
   | 0,h1=>cases h1;cases h2
   | 1,h1=>cases h1;cases h2
   | 2,h1=>cases h1;cases h2
   | 3,h1=>cases h1;cases h2
   | 4,h1=>cases h1;cases h2
   | 5,h1=>cases h1;cases h2
   | 6,h1=>cases h1;cases h2
   | 7,h1=>cases h1;cases h2
   | 8,h1=>cases h1;cases h2
   | 9,h1=>cases h1;cases h2
   | 10,h1=>cases h1;cases h2
   | 11,h1=>cases h1;cases h2
   | 12,h1=>cases h1;cases h2
   | 13,h1=>cases h1;cases h2
   | 14,h1=>cases h1;cases h2
   | 15,h1=>cases h1;cases h2
   | 16,h1=>cases h1;cases h2
   | 17,h1=>cases h1;cases h2
   | 18,h1=>cases h1;cases h2
   | 19,h1=>cases h1;cases h2
   | 20,h1=>cases h1;cases h2
   | 21,h1=>cases h1;cases h2
   | 22,h1=>exact ⟨B0_low10 xv,List.Mem.head _,rfl⟩
   | 23,h1=>cases h1;cases h2
   | i+24,h1=>cases h1
 · intro t
   unfold F_low10
   split <;> first | exact stays_eq _ | exact stays_q _ _ | exact stays_z _ _ | exact stays_r _ _ | exact stays_rq _ _ | exact stays_pg _ _ _ | exact stays_q1 _ _ | exact stays_true
 · intro i o t sv w' ho hia hd J0 hf
   have EX:=EX.below J0;have x:=x.below J0
   match i,ho with
   | 0,ho =>
     obtain rfl:o0_low10=o:=Option.some.inj ho
     cases hd
     refine wpOp_plain' (o:=o0_low10) rfl rfl ?_
     unfold Oper.wp o0_low10
     rw [run_move (E8 sv),Oper.upon_value]
     exact ⟨_,rfl,Below.refl _ _,rfl⟩
   | 1,ho =>
     obtain rfl:o1_low10=o:=Option.some.inj ho
     cases hd
     refine wpOp_plain' (o:=o1_low10) rfl rfl ?_
     unfold Oper.wp o1_low10
     rw [run_move (E9 sv),Oper.upon_value]
     exact ⟨_,rfl,Below.refl _ _,rfl⟩
   | 2,ho =>
     obtain rfl:o2_low10=o:=Option.some.inj ho
     cases hd
     have f62:sv 62=Value.slice (some ⟨gl,0,none⟩) 6 6:=hf ⟨0,.data⟩ (by simp [o2_low10]) rfl _ 62 rfl rfl (NE _ (by decide))
     have f63:sv 63=Value.int .i64 (mi:Int):=hf ⟨1,.data⟩ (by simp [o2_low10]) rfl _ 63 rfl rfl (NE _ (by decide))
     refine wpOp_plain' (o:=o2_low10) rfl rfl ?_
     unfold Oper.wp o2_low10
     rw [run_iq ((G sv 62 (by decide) (by decide)).trans f62) ((G sv 63 (by decide) (by decide)).trans f63) hmi,Oper.upon_value]
     exact ⟨_,rfl,Below.refl _ _,rfl⟩
   | 3,ho =>
     obtain rfl:o3_low10=o:=Option.some.inj ho
     cases hd
     have f64:sv 64=Value.pointer (some ⟨gl,mi*3,none⟩):=hf ⟨2,.data⟩ (by simp [o3_low10]) rfl _ 64 rfl rfl (NE _ (by decide))
     refine wpOp_plain' (o:=o3_low10) rfl rfl ?_
     unfold Oper.wp o3_low10
     rw [run_fq0 ((G sv 64 (by decide) (by decide)).trans f64) ,Oper.upon_value]
     exact ⟨_,rfl,Below.refl _ _,rfl⟩
   | 4,ho =>
     obtain rfl:o4_low10=o:=Option.some.inj ho
     cases hd
     have f65:sv 65=Value.pointer (some ⟨gl,mi*3,none⟩):=hf ⟨3,.data⟩ (by simp [o4_low10]) rfl _ 65 rfl rfl (NE _ (by decide))
     refine wpOp_plain' (o:=o4_low10) rfl rfl ?_
     unfold Oper.wp o4_low10
     rw [run_lqP ((G sv 65 (by decide) (by decide)).trans f65) EX,Oper.upon_value]
     exact ⟨_,rfl,Below.refl _ _,rfl⟩
   | 5,ho =>
     obtain rfl:o5_low10=o:=Option.some.inj ho
     cases hd
     refine wpOp_plain' (o:=o5_low10) rfl rfl ?_
     unfold Oper.wp o5_low10
     rw [run_move (E7 sv),Oper.upon_value]
     exact ⟨_,rfl,Below.refl _ _,rfl⟩
   | 6,ho =>
     obtain rfl:o6_low10=o:=Option.some.inj ho
     cases hd
     have f67:sv 67=Value.int .i64 nv:=hf ⟨5,.data⟩ (by simp [o6_low10]) rfl _ 67 rfl rfl (NE _ (by decide))
     refine wpOp_plain' (o:=o6_low10) rfl rfl ?_
     unfold Oper.wp o6_low10
     rw [rc_gesso_zed_Of ((G sv 67 (by decide) (by decide)).trans f67) rfl,Oper.upon_enter]
     refine (zof_zg nv (by omega) (by omega) _).mono ?_
     rintro e w1 ⟨s_,A_,n_,c_,rfl,hq,hh⟩
     exact ⟨_,rfl,hh,s_,A_,n_,c_,rfl,hq⟩
   | 7,ho =>
     obtain rfl:o7_low10=o:=Option.some.inj ho
     cases hd
     have f66:sv 66=Value.agg #[.bool s_x,.slice A_x n_x c_x]:=hf ⟨4,.data⟩ (by simp [o7_low10]) rfl _ 66 rfl rfl (NE _ (by decide))
     have h68:VZG (nv) (1) (sv 68) w':=hf ⟨6,.data⟩ (by simp [o7_low10]) rfl _ 68 rfl rfl (NE _ (by decide))
     obtain ⟨s68_,A68_,n68_,c68_,f68,q68⟩:=h68
     refine wpOp_plain' (o:=o7_low10) rfl rfl ?_
     unfold Oper.wp o7_low10
     rw [rc_gesso_zed_Mul ((G sv 66 (by decide) (by decide)).trans f66) ((G sv 68 (by decide) (by decide)).trans f68) rfl,Oper.upon_enter]
     refine (zmul_zg 26 x.zP q68.zr (by decide) (by decide) (.inl (by decide))).mono ?_
     rintro e w1 ⟨s_,A_,n_,c_,rfl,hq,hh⟩
     exact ⟨_,rfl,hh,s_,A_,n_,c_,rfl,hq⟩
   | 8,ho =>
     obtain rfl:o8_low10=o:=Option.some.inj ho
     cases hd
     refine wpOp_plain' (o:=o8_low10) rfl rfl ?_
     unfold Oper.wp o8_low10
     rw [run_move (E8 sv),Oper.upon_value]
     exact ⟨_,rfl,Below.refl _ _,rfl⟩
   | 9,ho =>
     obtain rfl:o9_low10=o:=Option.some.inj ho
     cases hd
     refine wpOp_plain' (o:=o9_low10) rfl rfl ?_
     unfold Oper.wp o9_low10
     rw [run_move (E9 sv),Oper.upon_value]
     exact ⟨_,rfl,Below.refl _ _,rfl⟩
   | 10,ho =>
     obtain rfl:o10_low10=o:=Option.some.inj ho
     cases hd
     have f70:sv 70=Value.slice (some ⟨gl,0,none⟩) 6 6:=hf ⟨8,.data⟩ (by simp [o10_low10]) rfl _ 70 rfl rfl (NE _ (by decide))
     have f71:sv 71=Value.int .i64 (mi:Int):=hf ⟨9,.data⟩ (by simp [o10_low10]) rfl _ 71 rfl rfl (NE _ (by decide))
     refine wpOp_plain' (o:=o10_low10) rfl rfl ?_
     unfold Oper.wp o10_low10
     rw [run_iq ((G sv 70 (by decide) (by decide)).trans f70) ((G sv 71 (by decide) (by decide)).trans f71) hmi,Oper.upon_value]
     exact ⟨_,rfl,Below.refl _ _,rfl⟩
   | 11,ho =>
     obtain rfl:o11_low10=o:=Option.some.inj ho
     cases hd
     have f72:sv 72=Value.pointer (some ⟨gl,mi*3,none⟩):=hf ⟨10,.data⟩ (by simp [o11_low10]) rfl _ 72 rfl rfl (NE _ (by decide))
     refine wpOp_plain' (o:=o11_low10) rfl rfl ?_
     unfold Oper.wp o11_low10
     rw [run_fq1 ((G sv 72 (by decide) (by decide)).trans f72) ,Oper.upon_value]
     exact ⟨_,rfl,Below.refl _ _,rfl⟩
   | 12,ho =>
     obtain rfl:o12_low10=o:=Option.some.inj ho
     cases hd
     have f73:sv 73=Value.pointer (some ⟨gl,mi*3+2,none⟩):=hf ⟨11,.data⟩ (by simp [o12_low10]) rfl _ 73 rfl rfl (NE _ (by decide))
     refine wpOp_plain' (o:=o12_low10) rfl rfl ?_
     unfold Oper.wp o12_low10
     rw [run_lqQ ((G sv 73 (by decide) (by decide)).trans f73) EX,Oper.upon_value]
     exact ⟨_,rfl,Below.refl _ _,rfl⟩
   | 13,ho =>
     obtain rfl:o13_low10=o:=Option.some.inj ho
     cases hd
     have f74:sv 74=Value.slice B_x m_x d_x:=hf ⟨12,.data⟩ (by simp [o13_low10]) rfl _ 74 rfl rfl (NE _ (by decide))
     refine wpOp_plain' (o:=o13_low10) rfl rfl ?_
     unfold Oper.wp o13_low10
     rw [run_bq ((G sv 74 (by decide) (by decide)).trans f74) ,Oper.upon_value]
     exact ⟨_,rfl,Below.refl _ _,rfl⟩
   | 14,ho =>
     obtain rfl:o14_low10=o:=Option.some.inj ho
     cases hd
     refine wpOp_plain' (o:=o14_low10) rfl rfl ?_
     unfold Oper.wp o14_low10
     rw [run_move (E7 sv),Oper.upon_value]
     exact ⟨_,rfl,Below.refl _ _,rfl⟩
   | 15,ho =>
     obtain rfl:o15_low10=o:=Option.some.inj ho
     cases hd
     have f76:sv 76=Value.int .i64 nv:=hf ⟨14,.data⟩ (by simp [o15_low10]) rfl _ 76 rfl rfl (NE _ (by decide))
     refine wpOp_plain' (o:=o15_low10) rfl rfl ?_
     unfold Oper.wp o15_low10
     rw [rc_gesso_zed_Of ((G sv 76 (by decide) (by decide)).trans f76) rfl,Oper.upon_enter]
     refine (zof_zg nv (by omega) (by omega) _).mono ?_
     rintro e w1 ⟨s_,A_,n_,c_,rfl,hq,hh⟩
     exact ⟨_,rfl,hh,s_,A_,n_,c_,rfl,hq⟩
   | 16,ho =>
     obtain rfl:o16_low10=o:=Option.some.inj ho
     cases hd
     have f75:sv 75=Value.agg #[.bool false,.slice B_x m_x d_x]:=hf ⟨13,.data⟩ (by simp [o16_low10]) rfl _ 75 rfl rfl (NE _ (by decide))
     have h77:VZG (nv) (1) (sv 77) w':=hf ⟨15,.data⟩ (by simp [o16_low10]) rfl _ 77 rfl rfl (NE _ (by decide))
     obtain ⟨s77_,A77_,n77_,c77_,f77,q77⟩:=h77
     refine wpOp_plain' (o:=o16_low10) rfl rfl ?_
     unfold Oper.wp o16_low10
     rw [rc_gesso_zed_Mul ((G sv 75 (by decide) (by decide)).trans f75) ((G sv 77 (by decide) (by decide)).trans f77) rfl,Oper.upon_enter]
     refine (zmul_zg 26 x.zQ q77.zr (by decide) (by decide) (.inl (by decide))).mono ?_
     rintro e w1 ⟨s_,A_,n_,c_,rfl,hq,hh⟩
     exact ⟨_,rfl,hh,s_,A_,n_,c_,rfl,hq⟩
   | 17,ho =>
     obtain rfl:o17_low10=o:=Option.some.inj ho
     cases hd
     have h69:VZG (xv.num*nv) (26) (sv 69) w':=hf ⟨7,.data⟩ (by simp [o17_low10]) rfl _ 69 rfl rfl (NE _ (by decide))
     obtain ⟨s69_,A69_,n69_,c69_,f69,q69⟩:=h69
     have h78:VZG ((xv.den:Int)*nv) (26) (sv 78) w':=hf ⟨16,.data⟩ (by simp [o17_low10]) rfl _ 78 rfl rfl (NE _ (by decide))
     obtain ⟨s78_,A78_,n78_,c78_,f78,q78⟩:=h78
     refine wpOp_plain' (o:=o17_low10) rfl rfl ?_
     unfold Oper.wp o17_low10
     rw [rc_gesso_rat_Make ((G sv 69 (by decide) (by decide)).trans f69) ((G sv 78 (by decide) (by decide)).trans f78) rfl,Oper.upon_enter]
     refine (low_make hn1 q69.zr q78.zr).mono ?_
     rintro e w1 ⟨s_,A_,n_,c_,B_,m_,d_,rfl,hq,hh⟩
     exact ⟨_,rfl,hh,s_,A_,n_,c_,B_,m_,d_,rfl,hq⟩
   | 18,ho =>
     obtain rfl:o18_low10=o:=Option.some.inj ho
     cases hd
     have f:=hf ⟨17,.data⟩ (by simp [o18_low10]) rfl _ 79 rfl rfl (NE _ (by decide))
     refine wpOp_plain' (o:=o18_low10) rfl rfl ?_
     unfold Oper.wp o18_low10
     rw [run_move (G sv 79 (by decide) (by decide)),Oper.upon_value]
     exact ⟨_,rfl,Below.refl _ _,f⟩
   | 19,ho =>
     obtain rfl:o19_low10=o:=Option.some.inj ho
     cases hd
     have h61:VQE1 (xv) (26) (sv 61) w':=hf ⟨18,.data⟩ (by simp [o19_low10]) rfl _ 61 rfl rfl (NE _ (by decide))
     obtain ⟨s61_,A61_,n61_,c61_,B61_,m61_,d61_,f61,q61⟩:=h61
     refine wpOp_plain' (o:=o19_low10) rfl rfl ?_
     unfold Oper.wp o19_low10
     rw [run_ext0 ((G sv 61 (by decide) (by decide)).trans f61),Oper.upon_value]
     exact ⟨_,rfl,Below.refl _ _,s61_,A61_,n61_,c61_,B61_,m61_,d61_,rfl,q61⟩
   | 20,ho =>
     obtain rfl:o20_low10=o:=Option.some.inj ho
     cases hd
     have h61:VQE1 (xv) (26) (sv 61) w':=hf ⟨18,.data⟩ (by simp [o20_low10]) rfl _ 61 rfl rfl (NE _ (by decide))
     obtain ⟨s61_,A61_,n61_,c61_,B61_,m61_,d61_,f61,q61⟩:=h61
     refine wpOp_plain' (o:=o20_low10) rfl rfl ?_
     unfold Oper.wp o20_low10
     rw [run_ext1 ((G sv 61 (by decide) (by decide)).trans f61),Oper.upon_value]
     exact ⟨_,rfl,Below.refl _ _,rfl⟩
   | 21,ho=>cases ho;cases hd;exact absurd rfl (hia (B0_low10 xv) (List.Mem.head _))
   | 22,ho=>cases ho;cases hd
   | 23,ho =>
     obtain rfl:o23_low10=o:=Option.some.inj ho
     cases hd
     have f:=hf ⟨20,.data⟩ (by simp [o23_low10]) rfl _ 81 rfl rfl (NE _ (by decide))
     refine wpOp_plain' (o:=o23_low10) rfl rfl ?_
     unfold Oper.wp o23_low10
     rw [run_assign (G sv 81 (by decide) (by decide)),Oper.upon_value]
     exact ⟨_,rfl,Below.refl _ _,f⟩
   | i+24,ho=>cases ho
 · intro p hp os sv w' g hos J0 p1 p3 hf
   simp only [List.mem_cons,List.not_mem_nil,or_false] at hp
   rcases hp with rfl
   · obtain rfl:o22_low10=os:=Option.some.inj hos
     have h1:VQ (xv) (26) (sv 80) w':=hf ⟨19,.data⟩ (by simp [o22_low10]) rfl _ 80 rfl rfl (NE _ (by decide))
     rw [← G sv 80 (by decide) (by decide)] at h1
     refine store_q (V:=xv) (k:=26) (ac:=putAll ac L_low10 sv) (z:=.tmp 80) ?_ ?_ ?_
     · exact (G sv 10 (by decide) (by decide)).trans p1
     · exact h1
     · exact p3
 · intro sv w' J0 hF hB hap
   obtain ⟨g0,cs0,p0,r0,b0,⟨s0,A0,n0,c0,B0,m0,d0,rfl,h0⟩⟩:=hB (B0_low10 xv) (List.Mem.head _)
   have p0':sv 10=.pointer (some ⟨g0,0,none⟩):=p0
   exact hend sv w' g0 _ _ _ _ _ _ _ h0 b0.at_ r0 p0' (hF 23 _ 11 rfl rfl (NE _ (by decide))) J0
theorem low_s (k:Nat) {va vb:Rat} (a:QR w s_a A_a n_a c_a B_a m_a d_a va 12) (b:QR w s_b A_b n_b c_b B_b m_b d_b vb 12) (h1:n_a≤12∧m_a≤12) (h2:n_b≤12∧m_b≤12) (hk:k≤65535) :
 Calls Tryz.prog 4 #[.agg #[.bool s_a,.slice A_a n_a c_a,.slice B_a m_a d_a],.agg #[.bool s_b,.slice A_b n_b c_b,.slice B_b m_b d_b],.int .u16 (k:Int)] w fun e w'=>e=.returned (.bool true)∧Below w.heap.size w w':=by
 have H1:=Lib.hid h1;have H2:=Lib.hid h2
 have hki:(k:Int)≤65535:=by omega
 clear h1 h2
 go_enter Tryz.func4,Tryz.ntmps4
 go_wp2_with fail
 generalize hW:World.alloc _ _=W
 obtain ⟨hb,XA,XB,hzW⟩:=mkbx10_7 hW;clear hW;replace a:=a.below hb;replace b:=b.below hb;obtain ⟨xa0,xa1,xa2⟩:=XA.all;obtain ⟨xb0,xb1,xb2⟩:=XB.all
 go_upto_region 4 with (first
  | (go_at_call 10;(with_reducible refine (qlarge_no s_a A_a B_a n_a c_a m_a d_a _ H1.out).mono ?_);rintro e w_z ⟨rfl,hh⟩
     (try replace a:=a.below hh);(try replace b:=b.below hh);(try replace XA:=XA.below hh);(try replace XB:=XB.below hh);replace hb:=bend hb hh;obtain ⟨xa0,xa1,xa2⟩:=XA.all;obtain ⟨xb0,xb1,xb2⟩:=XB.all)
  | (go_at_call 10;(with_reducible refine (qlarge_no s_b A_b B_b n_b c_b m_b d_b _ H2.out).mono ?_);rintro e w_z ⟨rfl,hh⟩
     (try replace a:=a.below hh);(try replace b:=b.below hh);(try replace XA:=XA.below hh);(try replace XB:=XB.below hh);replace hb:=bend hb hh;obtain ⟨xa0,xa1,xa2⟩:=XA.all;obtain ⟨xb0,xb1,xb2⟩:=XB.all))
 replace a:=a.below (Below.refl _ _).drew
 replace b:=b.below (Below.refl _ _).drew
 replace XA:=XA.below (Below.refl _ _).drew
 replace XB:=XB.below (Below.refl _ _).drew
 replace hb:=hb.drew
 go_region_held3 (fun w'=>w'.cell? ⟨w.heap.size,0,none⟩=some (.bool s_a)∧w'.cell? ⟨w.heap.size,1,none⟩=some (.slice A_a n_a c_a)∧w'.cell? ⟨w.heap.size,2,none⟩=some (.slice B_a m_a d_a)∧w'.cell? ⟨w.heap.size+1,0,none⟩=some (.bool s_b)∧w'.cell? ⟨w.heap.size+1,1,none⟩=some (.slice A_b n_b c_b)∧w'.cell? ⟨w.heap.size+1,2,none⟩=some (.slice B_b m_b d_b))
  (first | with_reducible exact ⟨XA.c0,XA.c1,XA.c2,XB.c0,XB.c1,XB.c2⟩ | with_reducible exact ⟨(XA.alloc _).c0,(XA.alloc _).c1,(XA.alloc _).c2,(XB.alloc _).c0,(XB.alloc _).c1,(XB.alloc _).c2⟩)
  (first
  | (go_at_call 18;(with_reducible refine (radd_q a b (by decide) (by decide) (.inl (by decide)) (by decide) (by decide)).mono ?_);rintro e w_x0 ⟨s_x0,A_x0,n_x0,c_x0,B_x0,m_x0,d_x0,rfl,x0,hh⟩
     (try replace a:=a.below hh);(try replace b:=b.below hh);(try replace XA:=XA.below hh);(try replace XB:=XB.below hh);replace hb:=bend hb hh)
  | (go_at_call 19;(with_reducible refine (rsub_q a b (by decide) (by decide) (.inl (by decide)) (by decide) (by decide)).mono ?_);rintro e w_x1 ⟨s_x1,A_x1,n_x1,c_x1,B_x1,m_x1,d_x1,rfl,x1,hh⟩
     (try replace a:=a.below hh);(try replace b:=b.below hh);(try replace XA:=XA.below hh);(try replace XB:=XB.below hh);(try replace x0:=x0.below hh);replace hb:=bend hb hh)
  | (go_at_call 20;(with_reducible refine (rmul_q a b (by decide) (by decide) (.inl (by decide)) (by decide) (by decide)).mono ?_);rintro e w_x2 ⟨s_x2,A_x2,n_x2,c_x2,B_x2,m_x2,d_x2,rfl,x2,hh⟩
     (try replace a:=a.below hh);(try replace b:=b.below hh);(try replace XA:=XA.below hh);(try replace XB:=XB.below hh);(try replace x0:=x0.below hh);(try replace x1:=x1.below hh);replace hb:=bend hb hh)
  | (go_at_call 21;(with_reducible refine (rneg_q a (by decide) (by decide)).mono ?_);rintro e w_x3 ⟨s_x3,A_x3,n_x3,c_x3,B_x3,m_x3,d_x3,rfl,x3,hh⟩
     (try replace a:=a.below hh);(try replace b:=b.below hh);(try replace XA:=XA.below hh);(try replace XB:=XB.below hh);(try replace x0:=x0.below hh);(try replace x1:=x1.below hh);(try replace x2:=x2.below hh);replace hb:=bend hb hh)
  | (go_at_call 22;(with_reducible refine (rabs_q a (by decide) (by decide)).mono ?_);rintro e w_x4 ⟨s_x4,A_x4,n_x4,c_x4,B_x4,m_x4,d_x4,rfl,x4,hh⟩
     (try replace a:=a.below hh);(try replace b:=b.below hh);(try replace XA:=XA.below hh);(try replace XB:=XB.below hh);(try replace x0:=x0.below hh);(try replace x1:=x1.below hh);(try replace x2:=x2.below hh);(try replace x3:=x3.below hh);replace hb:=bend hb hh)
  | (go_at_call 23;(with_reducible refine (low_of hk _).mono ?_);rintro e w_x5 ⟨s_x5,A_x5,n_x5,c_x5,B_x5,m_x5,d_x5,rfl,x5,hh⟩
     (try replace a:=a.below hh);(try replace b:=b.below hh);(try replace XA:=XA.below hh);(try replace XB:=XB.below hh);(try replace x0:=x0.below hh);(try replace x1:=x1.below hh);(try replace x2:=x2.below hh);(try replace x3:=x3.below hh);(try replace x4:=x4.below hh);replace hb:=bend hb hh))
 have SH:SlQ (w_x5.alloc (Obj.cells #[Value.bool s_x0,Value.slice A_x0 n_x0 c_x0,Value.slice B_x0 m_x0 d_x0,Value.bool s_x1,Value.slice A_x1 n_x1 c_x1,Value.slice B_x1 m_x1 d_x1,Value.bool s_x2,Value.slice A_x2 n_x2 c_x2,Value.slice B_x2 m_x2 d_x2,Value.bool s_x3,Value.slice A_x3 n_x3 c_x3,Value.slice B_x3 m_x3 d_x3,Value.bool s_x4,Value.slice A_x4 n_x4 c_x4,Value.slice B_x4 m_x4 d_x4,Value.bool s_x5,Value.slice A_x5 n_x5 c_x5,Value.slice B_x5 m_x5 d_x5] 26)) w_x5.heap.size [(QV.mk s_x0 A_x0 n_x0 c_x0 B_x0 m_x0 d_x0),(QV.mk s_x1 A_x1 n_x1 c_x1 B_x1 m_x1 d_x1),(QV.mk s_x2 A_x2 n_x2 c_x2 B_x2 m_x2 d_x2),(QV.mk s_x3 A_x3 n_x3 c_x3 B_x3 m_x3 d_x3),(QV.mk s_x4 A_x4 n_x4 c_x4 B_x4 m_x4 d_x4),(QV.mk s_x5 A_x5 n_x5 c_x5 B_x5 m_x5 d_x5)]:=heap_alloc_new w_x5 _
 have hh:Below w_x5.heap.size w_x5 (w_x5.alloc (Obj.cells #[Value.bool s_x0,Value.slice A_x0 n_x0 c_x0,Value.slice B_x0 m_x0 d_x0,Value.bool s_x1,Value.slice A_x1 n_x1 c_x1,Value.slice B_x1 m_x1 d_x1,Value.bool s_x2,Value.slice A_x2 n_x2 c_x2,Value.slice B_x2 m_x2 d_x2,Value.bool s_x3,Value.slice A_x3 n_x3 c_x3,Value.slice B_x3 m_x3 d_x3,Value.bool s_x4,Value.slice A_x4 n_x4 c_x4,Value.slice B_x4 m_x4 d_x4,Value.bool s_x5,Value.slice A_x5 n_x5 c_x5,Value.slice B_x5 m_x5 d_x5] 26)):=(Below.refl _ _).alloc (Nat.le_refl _) _
 replace x0:=x0.below hh;replace x1:=x1.below hh;replace x2:=x2.below hh;replace x3:=x3.below hh;replace x4:=x4.below hh;replace x5:=x5.below hh;replace hb:=bend hb hh
 have HE:Hid (∀ wr,Below (w_x5.alloc (Obj.cells #[Value.bool s_x0,Value.slice A_x0 n_x0 c_x0,Value.slice B_x0 m_x0 d_x0,Value.bool s_x1,Value.slice A_x1 n_x1 c_x1,Value.slice B_x1 m_x1 d_x1,Value.bool s_x2,Value.slice A_x2 n_x2 c_x2,Value.slice B_x2 m_x2 d_x2,Value.bool s_x3,Value.slice A_x3 n_x3 c_x3,Value.slice B_x3 m_x3 d_x3,Value.bool s_x4,Value.slice A_x4 n_x4 c_x4,Value.slice B_x4 m_x4 d_x4,Value.bool s_x5,Value.slice A_x5 n_x5 c_x5,Value.slice B_x5 m_x5 d_x5] 26)).heap.size (w_x5.alloc (Obj.cells #[Value.bool s_x0,Value.slice A_x0 n_x0 c_x0,Value.slice B_x0 m_x0 d_x0,Value.bool s_x1,Value.slice A_x1 n_x1 c_x1,Value.slice B_x1 m_x1 d_x1,Value.bool s_x2,Value.slice A_x2 n_x2 c_x2,Value.slice B_x2 m_x2 d_x2,Value.bool s_x3,Value.slice A_x3 n_x3 c_x3,Value.slice B_x3 m_x3 d_x3,Value.bool s_x4,Value.slice A_x4 n_x4 c_x4,Value.slice B_x4 m_x4 d_x4,Value.bool s_x5,Value.slice A_x5 n_x5 c_x5,Value.slice B_x5 m_x5 d_x5] 26)) wr→∀ (i:Nat) (P:QV),[(QV.mk s_x0 A_x0 n_x0 c_x0 B_x0 m_x0 d_x0),(QV.mk s_x1 A_x1 n_x1 c_x1 B_x1 m_x1 d_x1),(QV.mk s_x2 A_x2 n_x2 c_x2 B_x2 m_x2 d_x2),(QV.mk s_x3 A_x3 n_x3 c_x3 B_x3 m_x3 d_x3),(QV.mk s_x4 A_x4 n_x4 c_x4 B_x4 m_x4 d_x4),(QV.mk s_x5 A_x5 n_x5 c_x5 B_x5 m_x5 d_x5)][i]?=some P→∃ v,QG wr P.s P.A P.n P.c P.B P.m P.d v 25):=by
  intro wr hB i P hP
  match i,hP with
  | 0,hP=>cases hP;exact ⟨_,QG.more (QG.below x0 hB) (by decide)⟩
  | 1,hP=>cases hP;exact ⟨_,QG.more (QG.below x1 hB) (by decide)⟩
  | 2,hP=>cases hP;exact ⟨_,QG.more (QG.below x2 hB) (by decide)⟩
  | 3,hP=>cases hP;exact ⟨_,QG.more (QG.below x3 hB) (by decide)⟩
  | 4,hP=>cases hP;exact ⟨_,QG.more (QG.below x4 hB) (by decide)⟩
  | 5,hP=>cases hP;exact ⟨_,QG.more (QG.below x5 hB) (by decide)⟩
  | i+6,hP=>cases hP
 clear x0 x1 x2 x3 x4 x5 a b XA XB hh
 generalize (w_x5.alloc (Obj.cells #[Value.bool s_x0,Value.slice A_x0 n_x0 c_x0,Value.slice B_x0 m_x0 d_x0,Value.bool s_x1,Value.slice A_x1 n_x1 c_x1,Value.slice B_x1 m_x1 d_x1,Value.bool s_x2,Value.slice A_x2 n_x2 c_x2,Value.slice B_x2 m_x2 d_x2,Value.bool s_x3,Value.slice A_x3 n_x3 c_x3,Value.slice B_x3 m_x3 d_x3,Value.bool s_x4,Value.slice A_x4 n_x4 c_x4,Value.slice B_x4 m_x4 d_x4,Value.bool s_x5,Value.slice A_x5 n_x5 c_x5,Value.slice B_x5 m_x5 d_x5] 26))=W5 at SH HE hb ⊢
 generalize w_x5.heap.size=gL at SH ⊢
 generalize hL6:[(QV.mk s_x0 A_x0 n_x0 c_x0 B_x0 m_x0 d_x0),(QV.mk s_x1 A_x1 n_x1 c_x1 B_x1 m_x1 d_x1),(QV.mk s_x2 A_x2 n_x2 c_x2 B_x2 m_x2 d_x2),(QV.mk s_x3 A_x3 n_x3 c_x3 B_x3 m_x3 d_x3),(QV.mk s_x4 A_x4 n_x4 c_x4 B_x4 m_x4 d_x4),(QV.mk s_x5 A_x5 n_x5 c_x5 B_x5 m_x5 d_x5)]=LQ at SH HE
 have HLL:Hid (LQ.length=6):=by rw [← hL6];rfl
 clear hL6
 go_wp2_with fail
 go_loopg [9] 6 (fun gk ix wr=>∃ m:Nat,Hid (gk+m=6)∧ix=.int .i64 (m:Int)∧Below W5.heap.size W5 wr)
 case atStart=>exact ⟨0,rfl,rfl,Below.refl _ _⟩
 case round =>
  obtain ⟨m,HG,rfl,hB⟩:=hrel
  have hG:=HG.out;replace hb:=bend hb hB
  by_cases hm:m < 6
  · obtain ⟨P,hP⟩:∃ P,LQ[m]?=some P:=⟨_,List.getElem?_eq_getElem (by rw [HLL.out];exact hm)⟩
    obtain ⟨xv,x⟩:=HE.out wr hB m P hP
    have E:=(SH.below hB).at_ hP
    obtain ⟨s_x,A_x,n_x,c_x,B_x,m_x,d_x⟩:=P
    replace x:QG wr s_x A_x n_x c_x B_x m_x d_x xv 25:=x
    replace E:E3 wr gL (m*3) (.bool s_x) (.slice A_x n_x c_x) (.slice B_x m_x d_x):=E
    have hix:=idx_q (g:=gL) (n:=6) (c:=6) hm
    have hlt:(m:Int) < 6:=by omega
    have hd0:=qg_den x;obtain ⟨e0,e1,e2⟩:=E.all;clear hP hG
    go_upto_region 10 with (first
     | (go_at_call 24;(with_reducible refine (rgood_q x (by decide)).mono ?_);rintro e w_z ⟨rfl,hh⟩
        (try replace x:=x.below hh);(try replace E:=E.below hh);replace hb:=bend hb hh;replace hB:=bend hB hh;obtain ⟨e0,e1,e2⟩:=E.all))
    refine low10_region (by simp) rfl rfl rfl E x hm (by omega) (by omega) ?_
    intro V w_s g_y s_y A_y n_y c_y B_y m_y d_y y XY hg_y hvy hv11 hh
    simp only [putAll,Act.put,List.setIfInBounds_toArray,List.set_cons_zero,List.set_cons_succ,hvy,hv11]
    clear hvy hv11;replace x:=x.below hh;replace E:=E.below hh;replace hb:=bend hb hh;replace hB:=bend hB hh
    go_upto_region 11 with (fail)
    replace x:=x.below (Below.refl _ _).drew
    replace E:=E.below (Below.refl _ _).drew
    replace y:=y.below (Below.refl _ _).drew
    replace XY:=XY.below (Below.refl _ _).drew
    replace hb:=hb.drew;replace hB:=hB.drew
    go_region_held3 (fun w'=>w'.cell? ⟨g_y,0,none⟩=some (.bool s_y)∧w'.cell? ⟨g_y,1,none⟩=some (.slice A_y n_y c_y)∧w'.cell? ⟨g_y,2,none⟩=some (.slice B_y m_y d_y)∧w'.cell? ⟨gL,m*3,none⟩=some (.bool s_x)∧w'.cell? ⟨gL,m*3+1,none⟩=some (.slice A_x n_x c_x)∧w'.cell? ⟨gL,m*3+2,none⟩=some (.slice B_x m_x d_x))
     (first | with_reducible exact ⟨XY.c0,XY.c1,XY.c2,E.c0,E.c1,E.c2⟩)
     (first
     | (go_at_call 28;(with_reducible refine (rats_same y x (by decide)).mono ?_);rintro e w_z ⟨rfl,hh⟩
        (try replace x:=x.below hh);(try replace E:=E.below hh);(try replace y:=y.below hh);(try replace XY:=XY.below hh);replace hb:=bend hb hh;replace hB:=bend hB hh))
    go_wp2_with fail
    go_roundg (gk - 1)
    case measure=>have:=HG.out;omega
    case rel=>exact ⟨m+1,by have:=HG.out;show _=_;omega,by go_num,hB⟩
  · have hlt:¬ (m:Int) < 6:=by omega
    clear hm hG
    go_wp2_with (first
     | (go_at_call 11;(with_reducible refine (qwakes_any _).mono ?_);rintro e w_z ⟨rfl,hh⟩
        replace hb:=bend hb hh))
    go_ret;exact ⟨rfl,hb⟩
theorem law_lowest (k:Nat) {l1 l2 l3 l4:List Nat} (r1:Rd .u64 w A_a n_a l1) (r2:Rd .u64 w B_a m_a l2) (r3:Rd .u64 w A_b n_b l3) (r4:Rd .u64 w B_b m_b l4) (t1:Lim B64 l1) (t2:Lim B64 l2) (t3:Lim B64 l3) (t4:Lim B64 l4) (e1:n_a≤c_a) (e2:m_a≤d_a) (e3:n_b≤c_b) (e4:m_b≤d_b) (hk:k≤65535) :
 Calls Tryz.prog 4 #[.agg #[.bool s_a,.slice A_a n_a c_a,.slice B_a m_a d_a],.agg #[.bool s_b,.slice A_b n_b c_b,.slice B_b m_b d_b],.int .u16 (k:Int)] w fun e w'=>e=.returned (.bool true)∧Below w.heap.size w w':=by
 by_cases h1:n_a≤12∧m_a≤12
 · by_cases h2:n_b≤12∧m_b≤12
   · exact low_s k (QR.of_rd r1 t1 e1 r2 t2 e2 h1.1 h1.2) (QR.of_rd r3 t3 e3 r4 t4 e4 h2.1 h2.2) h1 h2 hk
   · exact low_l2 k h1 h2
 · exact low_l1 k h1
end
end Go.Proofs.YtmgklaklnaihpaaGreat
