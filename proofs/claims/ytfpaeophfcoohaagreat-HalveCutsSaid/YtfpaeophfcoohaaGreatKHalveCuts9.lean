/- HalveCuts: part 9. -/
import Derived.Deep.Cut
import Derived.Deep.CutRange
import Derived.Test.YtfpaeophfcoohaaGreatKHalveCuts4
import Derived.Test.YtfpaeophfcoohaaGreatKHalveCuts6
import Derived.Test.YtfpaeophfcoohaaGreatKHalveCuts7
import Derived.Test.YtfpaeophfcoohaaGreatKHalveCuts8
set_option linter.unusedVariables false
set_option maxRecDepth 100000
set_option maxHeartbeats 16000000
variable {w:Go.World}
namespace Go.Proofs.YtfpaeophfcoohaaGreat
section
open Go Go.RowKit
theorem wpOp_plain' {P:Program} {ops:Array Oper} {Q:Exit→Act→World→Prop} {i:Nat} {o:Oper} {K:Act→World→Prop} {a:Act} (hi:ops[i]?=some o) (hg:o.guard=none) (h:o.wp P a w K Q):wpOp P ops Q i K a w:=by
 unfold wpOp
 rw [hi]
 simp only [Region.wanted,hg,if_true]
 exact .inl h
structure BoxAt (T:TypeId) (w:World) (g:Nat) (cs:Array Value):Prop where
 at_:w.heap[g]?=some (.cells cs T (0,0))
 free:∀ (i:Nat) (k:IntKind) (x:Int),cs[i]? ≠ some (Value.int k x)
section
variable {T:TypeId} {w w':World} {g:Nat} {cs:Array Value}
theorem BoxAt.lt (h:BoxAt T w g cs):g < w.heap.size:=by
 rcases Nat.lt_or_ge g w.heap.size with k | k
 · exact k
 · have:=h.at_;simp [Array.getElem?_eq_none k] at this
theorem BoxAt.below (h:BoxAt T w g cs) (hb:Below w.heap.size w w'):BoxAt T w' g cs:=⟨(hb.block g h.lt).trans h.at_,h.free⟩
theorem BoxAt.offx {K:IntKind} {A:Option Addr} {n:Nat} {l:List Nat} (h:BoxAt T w g cs) (hr:Rd K w A n l):Off A n g:=by
 intro hn ad e hg
 obtain ⟨b,o,eA,hc⟩:=hr.at_ hn
 obtain ⟨y,_,hx⟩:=hc 0 hn
 rw [eA] at e
 cases e
 have hg2:b=g:=hg
 subst hg2
 rw [cell_of_row w b (o+0) _ _ (0,0) h.at_] at hx
 exact h.free _ _ _ hx
theorem NR.box {A:Option Addr} {n c V k:Nat} (h:NR w A n c V k) (B:BoxAt T w g cs) (ho:Only g w w'):NR w' A n c V k:=by
 obtain ⟨l,h1,h2⟩:=h;exact ⟨l,h1.only (B.offx h1) ho,h2⟩
theorem NG.box {A:Option Addr} {n c V k:Nat} (h:NG w A n c V k) (B:BoxAt T w g cs) (ho:Only g w w'):NG w' A n c V k:=⟨h.1.only (B.offx h.1) ho,h.2⟩
theorem ZG.box {s:Bool} {A:Option Addr} {n c k:Nat} {v:Int} (h:ZG w s A n c v k) (B:BoxAt T w g cs) (ho:Only g w w'):ZG w' s A n c v k:=⟨h.1,h.2.1.only (B.offx h.2.1) ho,h.2.2⟩
theorem ZR.box {s:Bool} {A:Option Addr} {n c k:Nat} {v:Int} (h:ZR w s A n c v k) (B:BoxAt T w g cs) (ho:Only g w w'):ZR w' s A n c v k:=by
 obtain ⟨l,h1,h2⟩:=h;exact ⟨l,h1.only (B.offx h1) ho,h2⟩
theorem QG.box {s:Bool} {A A':Option Addr} {n c n' c' k:Nat} {v:Rat} (h:QG w s A n c A' n' c' v k) (B:BoxAt T w g cs) (ho:Only g w w'):QG w' s A n c A' n' c' v k:=⟨h.1.box B ho,h.2.box B ho⟩
theorem QR.box {s:Bool} {A A':Option Addr} {n c n' c' k:Nat} {v:Rat} (h:QR w s A n c A' n' c' v k) (B:BoxAt T w g cs) (ho:Only g w w'):QR w' s A n c A' n' c' v k:=by
 obtain ⟨p,q,h1,h2,h3⟩:=h;exact ⟨p,q,h1.box B ho,h2.box B ho,h3⟩
end
theorem free3 (s:Bool) (A B:Option Addr) (n c m d:Nat):∀ (i:Nat) (k:IntKind) (v:Int),(#[.bool s,.slice A n c,.slice B m d]:Array Value)[i]? ≠ some (.int k v):=by
 intro i k v h
 match i,h with
 | 0,h=>cases h
 | 1,h=>cases h
 | 2,h=>cases h
 | i+3,h=>cases h
theorem free2 (s:Bool) (A:Option Addr) (n c:Nat):∀ (i:Nat) (k:IntKind) (v:Int),(#[.bool s,.slice A n c]:Array Value)[i]? ≠ some (.int k v):=by
 intro i k v h
 match i,h with
 | 0,h=>cases h
 | 1,h=>cases h
 | i+2,h=>cases h
def VQ (v:Rat) (k:Nat) (x:Value) (w:World):Prop:=∃ s A n c B m d,x=.agg #[.bool s,.slice A n c,.slice B m d]∧QG w s A n c B m d v k
def VZG (v:Int) (k:Nat) (x:Value) (w:World):Prop:=∃ s A n c,x=.agg #[.bool s,.slice A n c]∧ZG w s A n c v k
def VQE (S:Rat→Prop) (k:Nat) (x:Value) (w:World):Prop:=∃ v,S v∧∃ s A n c B m d,x=.tuple #[.agg #[.bool s,.slice A n c,.slice B m d],.int .i64 0]∧QG w s A n c B m d v k
def VQS (S:Rat→Prop) (k:Nat) (x:Value) (w:World):Prop:=∃ v,S v∧VQ v k x w
def Stays (F:Value→World→Prop):Prop:=(∀ x w w',F x w→Below w.heap.size w w'→F x w')∧∀ (T:TypeId) x w w' g cs,F x w→BoxAt T w g cs→Only g w w'→F x w'
theorem stays_eq (c:Value):Stays (fun x _=>x=c):=⟨fun _ _ _ h _=>h,fun _ _ _ _ _ _ h _ _=>h⟩
theorem stays_true:Stays (fun _ _=>True):=⟨fun _ _ _ h _=>h,fun _ _ _ _ _ _ h _ _=>h⟩
theorem stays_q (v:Rat) (k:Nat):Stays (VQ v k) :=
 ⟨fun _ _ _ ⟨s,A,n,c,B,m,d,h1,h2⟩ hb=>⟨s,A,n,c,B,m,d,h1,h2.below hb⟩,fun _ _ _ _ _ _ ⟨s,A,n,c,B,m,d,h1,h2⟩ hB ho=>⟨s,A,n,c,B,m,d,h1,h2.box hB ho⟩⟩
theorem stays_z (v:Int) (k:Nat):Stays (VZG v k) :=
 ⟨fun _ _ _ ⟨s,A,n,c,h1,h2⟩ hb=>⟨s,A,n,c,h1,h2.below hb⟩,fun _ _ _ _ _ _ ⟨s,A,n,c,h1,h2⟩ hB ho=>⟨s,A,n,c,h1,h2.box hB ho⟩⟩
theorem stays_qe (S:Rat→Prop) (k:Nat):Stays (VQE S k) :=
 ⟨fun _ _ _ ⟨v,hv,s,A,n,c,B,m,d,h1,h2⟩ hb=>⟨v,hv,s,A,n,c,B,m,d,h1,h2.below hb⟩,fun _ _ _ _ _ _ ⟨v,hv,s,A,n,c,B,m,d,h1,h2⟩ hB ho=>⟨v,hv,s,A,n,c,B,m,d,h1,h2.box hB ho⟩⟩
theorem stays_qs (S:Rat→Prop) (k:Nat):Stays (VQS S k) :=
 ⟨fun _ _ _ ⟨v,hv,h⟩ hb=>⟨v,hv,(stays_q v k).1 _ _ _ h hb⟩,fun T _ _ _ _ _ ⟨v,hv,h⟩ hB ho=>⟨v,hv,(stays_q v k).2 T _ _ _ _ _ h hB ho⟩⟩
theorem store_q {ac:Act} {x z:Operand} {y g:Nat} {pos:String} {af:Array Edge} {Q:Exit→Act→World→Prop} {V:Rat} {k:Nat} (p1:ac.eval x=.pointer (some ⟨g,0,none⟩)) (h:VQ V k (ac.eval z) w) (B:BoxAt 26 w g #[.bool false,.slice none 0 0,.slice none 0 0]) :
 (⟨none,.store 26 x z,y,pos,af,none⟩:Oper).wp Tryz.prog ac w (fun a'' w''=>a''=ac∧Only g w w''∧∃ cs',BoxAt 26 w'' g cs'∧(fun cs w=>∃ s A n c B m d,cs=#[.bool s,.slice A n c,.slice B m d]∧QG w s A n c B m d V k) cs' w'') Q:=by
 obtain ⟨s1,A1,n1,c1,B1,m1,d1,h1,h2⟩:=h
 have Z:B3 w g (Value.bool false) (Value.slice none 0 0) (Value.slice none 0 0):=B.at_
 unfold Oper.wp
 rw [run_storeQ p1 h1 Z.c0 Z.c1 Z.c2 Z.f0 Z.f1 Z.f2,Oper.upon_skip]
 refine ⟨put_none ac undef,((((Only.refl g w).setCell 0 _).setCell 1 _).setCell 2 _),#[.bool s1,.slice A1 n1 c1,.slice B1 m1 d1],⟨Z.set3 (Value.bool s1) (Value.slice A1 n1 c1) (Value.slice B1 m1 d1),free3 _ _ _ _ _ _ _⟩,s1,A1,n1,c1,B1,m1,d1,rfl,h2.box B ((((Only.refl g w).setCell 0 _).setCell 1 _).setCell 2 _)⟩
section
variable {P:Program} {ops:Array Oper} {Q:Exit→Act→World→Prop}
def JFlow (ops:Array Oper) (w0:World) (T:TypeId) (zs:Array Value) (ia is tA:Nat) (F:Nat→Value→World→Prop) (Fst:Array Value→World→Prop) (D:Nat→Bool) (v:Nat→Value) (w':World):Prop :=
 Below w0.heap.size w0 w'∧(∀ (i:Nat) (o:Oper) (t:Nat),ops[i]?=some o→o.dst=some t→t ≠ tA→D i=true→F t (v t) w') ∧
 (D ia=true→∃ g cs,v tA=.pointer (some ⟨g,0,none⟩)∧w0.heap.size≤g∧BoxAt T w' g cs∧(D is=true→Fst cs w')∧(D is=false→cs=zs))∧(D is=true→D ia=true)
theorem once_of {i j:Nat} {oi oj:Oper} {t:Nat}:∀ {l:List Oper},(l.filterMap (·.dst)).Nodup→l[i]?=some oi→l[j]?=some oj→oi.dst=some t→oj.dst=some t→i=j:=by
 intro l
 induction l generalizing i j with
 | nil=>intro _ h;simp at h
 | cons o l ih =>
   intro hn h1 h2 d1 d2
   have mem:∀ {k:Nat} {p:Oper},l[k]?=some p→p.dst=some t→t ∈ l.filterMap (·.dst):=fun h d=>List.mem_filterMap.2 ⟨_,List.mem_of_getElem? h,d⟩
   have hn':(l.filterMap (·.dst)).Nodup:=by
    rw [List.filterMap_cons] at hn
    split at hn
    · exact hn
    · exact (List.nodup_cons.1 hn).2
   match i,j with
   | 0,0=>rfl
   | 0,j+1 =>
     exfalso
     simp at h1
     subst h1
     rw [List.filterMap_cons,d1] at hn
     exact (List.nodup_cons.1 hn).1 (mem (by simpa using h2) d2)
   | i+1,0 =>
     exfalso
     simp at h2
     subst h2
     rw [List.filterMap_cons,d2] at hn
     exact (List.nodup_cons.1 hn).1 (mem (by simpa using h1) d1)
   | i+1,j+1=>exact congrArg (·+1) (ih hn' (by simpa using h1) (by simpa using h2) d1 d2)
theorem wp_region_flow {id:Nat} {a:Act} {w0:World} (T:TypeId) (zs:Array Value) (l:List Nat) (ia is tA:Nat) (oa os:Oper) (F:Nat→Value→World→Prop) (Fst:Array Value→World→Prop)
 (hm:P.follows .mixedOrders=true) (hb:backB ops=true) (hl:ops.toList.filterMap (·.dst)=l) (hn:l.Nodup)
 (hoa:ops[ia]?=some oa) (hos:ops[is]?=some os) (hda:oa.dst=some tA) (hds:os.dst=none) (hone:∀ (i:Nat) (o:Oper),ops[i]?=some o→o.dst=none→i=is)
 (hga:oa.guard=none) (hgs:os.guard=none) (hedge:∃ e ∈ os.after,Region.binds .any e=true∧e.on=ia)
 (hst:∀ t,Stays (F t)) (hzs:∀ (i:Nat) (k:IntKind) (x:Int),zs[i]? ≠ some (Value.int k x))
 (halloc:∀ (e:Operand→Value) (w':World),(execOp e oa).run P w'=.ok (.value (.pointer (some ⟨w'.heap.size,0,none⟩))) (w'.alloc (.cells zs T)))
 (hval:∀ (i:Nat) (o:Oper) (t:Nat) (v:Nat→Value) (w':World),ops[i]?=some o→i ≠ ia→o.dst=some t→Below w0.heap.size w0 w' →
  (∀ e ∈ o.after,Region.binds .any e=true→∀ (oe:Oper) (te:Nat),ops[e.on]?=some oe→oe.dst=some te→te ≠ tA→F te (v te) w') →
  wpOp P ops Q i (fun a'' w''=>∃ x,a''=(putAll a l v).put (some t) x∧Below w'.heap.size w' w''∧F t x w'') (putAll a l v) w')
 (hstore:∀ (v:Nat→Value) (w':World) (g:Nat),Below w0.heap.size w0 w'→v tA=.pointer (some ⟨g,0,none⟩)→BoxAt T w' g zs →
  (∀ e ∈ os.after,Region.binds .any e=true→∀ (oe:Oper) (te:Nat),ops[e.on]?=some oe→oe.dst=some te→te ≠ tA→F te (v te) w') →
  os.wp P (putAll a l v) w' (fun a'' w''=>a''=putAll a l v∧Only g w' w''∧∃ cs',BoxAt T w'' g cs'∧Fst cs' w'') Q)
 (hfst:∀ cs w w',Fst cs w→Below w.heap.size w w'→Fst cs w')
 (hend:∀ (v:Nat→Value) (w':World) (g:Nat) (cs:Array Value),Below w0.heap.size w0 w'→(∀ (i:Nat) (o:Oper) (t:Nat),ops[i]?=some o→o.dst=some t→t ≠ tA→F t (v t) w')→v tA=.pointer (some ⟨g,0,none⟩)→w0.heap.size≤g→BoxAt T w' g cs→Fst cs w'→Q .normal (putAll a l v) w') :
 (Code.region id ops true).wp P Q a w0:=by
 have hmem:∀ {i:Nat} {o:Oper} {t:Nat},ops[i]?=some o→o.dst=some t→t ∈ l:=fun {i o t} h d=>by
  rw [← hl];exact List.mem_filterMap.2 ⟨o,List.mem_of_getElem? (by simpa using h),d⟩
 have hinj:∀ {i j:Nat} {oi oj:Oper} {t:Nat},ops[i]?=some oi→ops[j]?=some oj→oi.dst=some t→oj.dst=some t→i=j:=fun {i j oi oj t} h1 h2 d1 d2 =>
  once_of (l:=ops.toList) (by rw [hl];exact hn) (by simpa using h1) (by simpa using h2) d1 d2
 refine wp_region_inv l (JFlow ops w0 T zs ia is tA F Fst) hm hb ?_ ?_ ?_ ?_
 · refine ⟨(Below.refl _ _).drew,?_,?_,?_⟩
   · intro i o t _ _ _ h;exact absurd (show false=true from h) (by decide)
   · intro h;exact absurd (show false=true from h) (by decide)
   · intro h;exact absurd (show false=true from h) (by decide)
 · intro D D' v w hD h
   obtain ⟨h0,h1,h2,h3⟩:=h
   have lt_of:∀ {i:Nat} {o:Oper},ops[i]?=some o→i < ops.size:=fun {i o} h=>by
    rcases Nat.lt_or_ge i ops.size with k | k
    · exact k
    · rw [Array.getElem?_eq_none k] at h;cases h
   have e1:=hD ia (lt_of hoa)
   have e2:=hD is (lt_of hos)
   refine ⟨h0,fun i o t hi ht hne hd=>h1 i o t hi ht hne (by rw [hD i (lt_of hi)];exact hd),?_,?_⟩
   · rw [← e1,← e2];exact h2
   · rw [← e1,← e2];exact h3
 · intro i o D v w' ho hDi hall hJ
   obtain ⟨J0,J1,J2,J3⟩:=hJ
   by_cases hia:i=ia
   · subst hia
     rw [hoa] at ho
     cases ho
     have nis:¬ D is=true:=fun h=>by have:=J3 h;rw [hDi] at this;cases this
     refine wpOp_plain' hoa hga ?_
     unfold Oper.wp
     rw [halloc,Oper.upon_value,hda]
     have hbl:=(Below.refl w'.heap.size w').alloc (Nat.le_refl _) (.cells zs T)
     refine ⟨_,putAll_put _ _ _ _ _ hn (hmem hoa hda),J0.trans (hbl.mono J0.size),?_,?_,?_⟩
     · intro j oj t hj ht hne hd
       have hji:j ≠ i:=fun q=>hne (by subst q;rw [hoa] at hj;cases hj;rw [hda] at ht;cases ht;rfl)
       rw [upd_ne _ _ hji] at hd;rw [upd_ne _ _ hne]
       exact (hst t).1 _ _ _ (J1 j oj t hj ht hne hd) hbl
     · intro _
       refine ⟨w'.heap.size,zs,upd_same _ _ _,J0.size,⟨heap_alloc_new _ _,hzs⟩,fun h=>?_,fun _=>rfl⟩
       have:is ≠ i:=fun q=>by subst q;rw [hos] at hoa;cases hoa;rw [hds] at hda;cases hda
       rw [upd_ne _ _ this] at h
       exact absurd h nis
     · intro h
       have:is ≠ i:=fun q=>by subst q;rw [hos] at hoa;cases hoa;rw [hds] at hda;cases hda
       rw [upd_ne _ _ this] at h
       exact absurd h nis
   · cases hd:o.dst with
     | none =>
       have his:=hone i o ho hd
       subst his
       rw [hos] at ho
       cases ho
       obtain ⟨e,he,hbd,hon⟩:=hedge
       have hDa:D ia=true:=by rw [← hon];exact hall e he hbd
       obtain ⟨g,cs,p1,p2,p3,_,pz⟩:=J2 hDa
       obtain rfl:=pz hDi
       refine wpOp_plain' hos hgs ?_
       refine Oper.wp_mono ?_ (hstore v w' g J0 p1 p3 (fun e he hb' oe te h1 h2 h3=>J1 e.on oe te h1 h2 h3 (hall e he hb')))
       rintro a'' w'' ⟨rfl,ho2,cs',hB,hF⟩
       refine ⟨v,rfl,Below.only J0 p2 J0.size ho2,?_,?_,?_⟩
       · intro j oj t hj ht hne hd2
         have hji:j ≠ i:=fun q=>by subst q;rw [hos] at hj;cases hj;rw [hds] at ht;cases ht
         rw [upd_ne _ _ hji] at hd2
         exact (hst t).2 T _ _ _ _ _ (J1 j oj t hj ht hne hd2) p3 ho2
       · intro _
         exact ⟨g,cs',p1,p2,hB,fun _=>hF,fun q=>by rw [upd_same] at q;cases q⟩
       · intro _
         rw [upd_ne _ _ (Ne.symm hia)];exact hDa
     | some t =>
       have htA:t ≠ tA:=fun q=>hia (by subst q;exact hinj ho hoa hd hda)
       refine wpOp_mono ?_ (hval i o t v w' ho hia hd J0 (fun e he hb' oe te h1 h2 h3=>J1 e.on oe te h1 h2 h3 (hall e he hb')))
       rintro a'' w'' ⟨x,rfl,hbl,hF⟩
       have nis:is ≠ i:=fun q=>by subst q;rw [hos] at ho;cases ho;rw [hds] at hd;cases hd
       refine ⟨_,putAll_put _ _ _ _ _ hn (hmem ho hd),J0.trans (hbl.mono J0.size),?_,?_,?_⟩
       · intro j oj t' hj ht hne hd2
         by_cases hji:j=i
         · subst hji
           rw [ho] at hj
           cases hj
           rw [hd] at ht
           cases ht
           rw [upd_same]
           exact hF
         · rw [upd_ne _ _ hji] at hd2
           have htt:t' ≠ t:=fun q=>hji (by subst q;exact hinj hj ho ht hd)
           rw [upd_ne _ _ htt]
           exact (hst t').1 _ _ _ (J1 j oj t' hj ht hne hd2) hbl
       · intro h
         rw [upd_ne _ _ (Ne.symm hia)] at h
         obtain ⟨g,cs,p1,p2,p3,p4,pz⟩:=J2 h
         refine ⟨g,cs,by rw [upd_ne _ _ (Ne.symm htA)];exact p1,p2,p3.below hbl,fun h'=>?_,fun h'=>?_⟩
         · rw [upd_ne _ _ nis] at h'
           exact hfst _ _ _ (p4 h') hbl
         · rw [upd_ne _ _ nis] at h'
           exact pz h'
       · intro h
         rw [upd_ne _ _ nis] at h
         rw [upd_ne _ _ (Ne.symm hia)]
         exact J3 h
 · intro D v w' hall hJ
   obtain ⟨J0,J1,J2,J3⟩:=hJ
   have lt_of:∀ {i:Nat} {o:Oper},ops[i]?=some o→i < ops.size:=fun {i o} h=>by
    rcases Nat.lt_or_ge i ops.size with k | k
    · exact k
    · rw [Array.getElem?_eq_none k] at h;cases h
   obtain ⟨g,cs,p1,p2,p3,p4,_⟩:=J2 (hall ia (lt_of hoa))
   exact hend v w' g cs J0 (fun i o t hi ht hne=>J1 i o t hi ht hne (hall i (lt_of hi))) p1 p2 p3 (p4 (hall is (lt_of hos)))
end
end
section
open Go Go.RowKit
structure BoxOp where
 ia:Nat
 is:Nat
 tA:Nat
 T:TypeId
 zs:Array Value
 Fst:Array Value→World→Prop
structure JFlows (ops:Array Oper) (w0:World) (L:List BoxOp) (F:Nat→Value→World→Prop) (D:Nat→Bool) (v:Nat→Value) (w':World):Prop where
 below:Below w0.heap.size w0 w'
 vals:∀ (i:Nat) (o:Oper) (t:Nat),ops[i]?=some o→o.dst=some t→(∀ p ∈ L,t ≠ p.tA)→D i=true→F t (v t) w'
 box:∀ p ∈ L,D p.ia=true→∃ g cs,v p.tA=.pointer (some ⟨g,0,none⟩)∧w0.heap.size≤g∧BoxAt p.T w' g cs∧(D p.is=true→p.Fst cs w')∧(D p.is=false→cs=p.zs)
 after:∀ p ∈ L,D p.is=true→D p.ia=true
 apart:∀ p ∈ L,∀ q ∈ L,p.tA ≠ q.tA→D p.ia=true→D q.ia=true→v p.tA ≠ v q.tA
section
variable {P:Program} {ops:Array Oper} {Q:Exit→Act→World→Prop}
structure BoxIn (P:Program) (ops:Array Oper) (p:BoxOp):Prop where
 alloc:∃ oa,ops[p.ia]?=some oa∧oa.dst=some p.tA∧oa.guard=none∧∀ (e:Operand→Value) (w':World),(execOp e oa).run P w'=.ok (.value (.pointer (some ⟨w'.heap.size,0,none⟩))) (w'.alloc (.cells p.zs p.T))
 fill:∃ os,ops[p.is]?=some os∧os.dst=none∧os.guard=none∧∃ e ∈ os.after,Region.binds .any e=true∧e.on=p.ia
 free:∀ (i:Nat) (k:IntKind) (x:Int),p.zs[i]? ≠ some (Value.int k x)
 stays:∀ cs w w',p.Fst cs w→Below w.heap.size w w'→p.Fst cs w'
 stays2:∀ (T:TypeId) cs w w' g c0,p.Fst cs w→BoxAt T w g c0→Only g w w'→p.Fst cs w'
end
end
section
open Go Go.RowKit
def B3R (W:World) (g:Nat) (x y z:Value):Prop:=W.heap[g]?=some (.cells #[x,y,z] 49 (0,0))
section
variable {W W':World} {g:Nat} {x y z:Value}
theorem B3R.c0 (h:B3R W g x y z):W.cell? ⟨g,0,none⟩=some x:=by rw [cell_of_row W g 0 _ _ (0,0) h];rfl
theorem B3R.c1 (h:B3R W g x y z):W.cell? ⟨g,1,none⟩=some y:=by rw [cell_of_row W g 1 _ _ (0,0) h];rfl
theorem B3R.c2 (h:B3R W g x y z):W.cell? ⟨g,2,none⟩=some z:=by rw [cell_of_row W g 2 _ _ (0,0) h];rfl
theorem B3R.all (h:B3R W g x y z):W.cell? ⟨g,0,none⟩=some x∧W.cell? ⟨g,1,none⟩=some y∧W.cell? ⟨g,2,none⟩=some z:=⟨h.c0,h.c1,h.c2⟩
theorem B3R.f0 (h:B3R W g x y z):W.frozen? ⟨g,0,none⟩=false:=frozen_of_row W g 0 _ _ h
theorem B3R.f1 (h:B3R W g x y z):W.frozen? ⟨g,1,none⟩=false:=frozen_of_row W g 1 _ _ h
theorem B3R.f2 (h:B3R W g x y z):W.frozen? ⟨g,2,none⟩=false:=frozen_of_row W g 2 _ _ h
theorem B3R.lt (h:B3R W g x y z):g < W.heap.size:=World.block_lt_of_cell? W _ h.c0
theorem B3R.below (h:B3R W g x y z) (hb:Below W.heap.size W W'):B3R W' g x y z:=(hb.block g h.lt).trans h
theorem B3R.alloc (h:B3R W g x y z) (o:Obj):B3R (W.alloc o) g x y z:=(Below.heap_alloc W o g h.lt).trans h
theorem B3R.new' (W:World) (x y z:Value) (g:Nat) (hg:g=W.heap.size):B3R (W.alloc (.cells #[x,y,z] 49)) g x y z:=by subst hg;exact heap_alloc_new W _
theorem B3R.set3 (h:B3R W g x y z) (a b c:Value):B3R (((W.setCell ⟨g,0,none⟩ a).setCell ⟨g,1,none⟩ b).setCell ⟨g,2,none⟩ c) g a b c:=by
 unfold B3R at h ⊢
 simp [World.setCell,Array.getElem?_modify,h]
theorem B3R.offx {s:Bool} {A A1 A2:Option Addr} {n n1 n2 c1 c2:Nat} {K:IntKind} {l:List Nat} (h:B3R W g (.bool s) (.slice A1 n1 c1) (.slice A2 n2 c2)) (hr:Rd K W A n l):Off A n g:=by
 intro hn ad e hg
 obtain ⟨b,o,eA,hc⟩:=hr.at_ hn
 obtain ⟨x,_,hx⟩:=hc 0 hn
 rw [eA] at e
 cases e
 have hg2:b=g:=hg
 subst hg2
 rw [cell_of_row W b (o+0) _ _ (0,0) h] at hx
 match o,hx with
 | 0,hx=>cases hx
 | 1,hx=>cases hx
 | 2,hx=>cases hx
 | o+3,hx=>cases hx
end
def RQ (w:World) (s:Bool) (A:Option Addr) (n c:Nat) (A':Option Addr) (n' c':Nat) (v:Rat) (k:Nat):Prop:=RG w s A n c v.num k∧RN w A' n' c' v.den k
def GivesRQ (w:World) (v:Rat) (k:Nat) (e:Ending) (w':World):Prop :=
 ∃ s A n c A' n' c',e=.returned (.agg #[.bool s,.slice A n c,.slice A' n' c'])∧RQ w' s A n c A' n' c' v k∧Below w.heap.size w w'
section
variable {w w':World} {s:Bool} {A A':Option Addr} {n c n' c' k g:Nat} {v:Rat}
theorem RQ.below (h:RQ w s A n c A' n' c' v k) (hb:Below w.heap.size w w'):RQ w' s A n c A' n' c' v k:=⟨h.1.below hb,h.2.below hb⟩
theorem RN.only {V:Nat} (h:RN w A n c V k) (ho:Off A n g) (hb:Only g w w'):RN w' A n c V k:=⟨h.1.only ho hb,h.2⟩
theorem RG.only {V:Int} (h:RG w s A n c V k) (ho:Off A n g) (hb:Only g w w'):RG w' s A n c V k:=⟨h.1,h.2.only ho hb⟩
theorem RG.rn {V:Int} (h:RG w s A n c V k):RN w A n c V.natAbs k:=h.2
theorem RG.more {V:Int} {k1:Nat} (h:RG w s A n c V k) (hk:k≤k1):RG w s A n c V k1:=⟨h.1,h.2.more hk⟩
theorem RQ.set3 {t:Bool} {A1 A2:Option Addr} {n1 c1 n2 c2:Nat} (h:RQ w s A n c A' n' c' v k) (Z:B3R w g (.bool t) (.slice A1 n1 c1) (.slice A2 n2 c2)) (x y z:Value) :
 RQ (((w.setCell ⟨g,0,none⟩ x).setCell ⟨g,1,none⟩ y).setCell ⟨g,2,none⟩ z) s A n c A' n' c' v k:=by
 have ho:Only g w (((w.setCell ⟨g,0,none⟩ x).setCell ⟨g,1,none⟩ y).setCell ⟨g,2,none⟩ z):=(((Only.refl g w).setCell 0 _).setCell 1 _).setCell 2 _
 exact ⟨h.1.only (Z.offx h.1.2.1) ho,h.2.only (Z.offx h.2.1) ho⟩
end
theorem mkRat_num {p:Int} {q:Nat} (hq:q ≠ 0):(mkRat p q).num.natAbs=p.natAbs / Nat.gcd p.natAbs q∧(mkRat p q).den=q / Nat.gcd p.natAbs q∧((mkRat p q).num < 0 ↔ p < 0):=by
 have h0:(q:Int) ≠ 0:=by omega
 have h1:=div_num (p:=p) h0
 have h2:=div_den (p:=p) h0
 rw [Rat.divInt_ofNat] at h1 h2
 simp only [Int.natAbs_natCast] at h1 h2
 exact ⟨h1,h2,by rw [num_neg_iff,mk_negv hq]⟩
theorem mkbx20_9 {w W:World} {x0 x1 x2 x3 x4:Value} (h:((w.alloc (Obj.cells #[x0,x1] 47)).alloc (Obj.cells #[x2,x3,x4] 49))=W):Below w.heap.size w W∧By W (w.heap.size) x0 x1∧B3R W (w.heap.size+1) x2 x3 x4∧W.heap.size=w.heap.size+2:=by subst h;exact ⟨by exact (((Below.refl _ _).alloc (Nat.le_refl _) _).alloc (by simp) _),by exact (By.new' _ _ _ _ rfl).alloc _,by exact B3R.new' _ _ _ _ _ (by simp),by simp⟩
theorem made_one {s:Bool} {A B:Option Addr} {n c m d k q:Nat} {p:Int} (X:RG w s A n c p k) (Y:RN w B m d q k) (hk:k≤100000) (hq:q ≠ 0) (hg:Nat.gcd p.natAbs q=1) :
 Calls Tryz.prog 78 #[.agg #[.bool s,.slice A n c],.slice B m d] w (GivesRQ w (mkRat p q) k):=by
 have HG:=Lib.hid hg
 have hm:=mkRat_num (p:=p) hq
 rw [hg,Nat.div_one,Nat.div_one] at hm
 have HM:=Lib.hid hm;clear hg hm
 go_enter Tryz.func78,Tryz.ntmps78
 go_wp2_with fail
 generalize hW:World.alloc _ _=W
 obtain ⟨hb,XP,Z,hzW⟩:=mkbx20_9 hW;clear hW;replace X:=X.below hb;replace Y:=Y.below hb;obtain ⟨xp0,xp1⟩:=XP.all
 go_upto_region 2 with (first
  | (go_at_call 116;(with_reducible refine (rgcd_nr X.rn Y (by omega)).mono ?_);rintro e w_g ⟨A_g,n_g,c_g,rfl,g,hh⟩
     rw [HG.out] at g;(try replace X:=X.below hh);(try replace Y:=Y.below hh);(try replace x:=x.below hh);(try replace y:=y.below hh);(try replace XP:=XP.below hh);(try replace Z:=Z.below hh);replace hb:=bend hb hh;obtain ⟨xp0,xp1⟩:=XP.all))
 have hl:limbs B32 1=[1]:=limbs_small B32_two (by decide) (by decide)
 have hg1:=g.1;rw [hl] at hg1
 have hn:1=n_g:=hg1.1
 subst hn
 obtain ⟨gb,go,rfl,hgc⟩:=hg1.at_ (by decide)
 obtain ⟨gx,hgx,hgc0⟩:=hgc 0 (by decide)
 have hgx1:1=gx:=by simpa using hgx
 subst hgx1
 have hc1:w_g.cell? ⟨gb,go,none⟩=some (.int .u32 1):=by simpa using hgc0
 clear hgc hgx hgc0 hg1 hl g;have zf0:=Z.f0;have zf1:=Z.f1;have zf2:=Z.f2;obtain ⟨z0,z1,z2⟩:=Z.all
 go_wp2_with fail
 have Z2:=Z.set3 (.bool s) (.slice A n c) (.slice B m d)
 obtain ⟨g0,g1,g2⟩:=Z2.all
 refine bodyPost_ret (v:=.agg #[.bool s,.slice A n c,.slice B m d]) (by simp [results,Tryz.results78,go_sem,g0,g1,g2]) rfl ?_
 have hm:=HM.out
 have hr:RQ w_g s A n c B m d (mkRat p q) k:=⟨⟨X.1.trans (by rw [decide_eq_decide];exact hm.2.2.symm),by rw [hm.1];exact X.rn⟩,by rw [hm.2.1];exact Y⟩
 exact ⟨s,_,_,_,_,_,_,rfl,hr.set3 Z _ _ _,below_set3 hb (by omega) _ _ _⟩
theorem made_big {s:Bool} {A B:Option Addr} {n c m d k q G:Nat} {p:Int} (X:RG w s A n c p k) (Y:RN w B m d q k) (hk:k≤100000) (hq:q ≠ 0) (hg:Nat.gcd p.natAbs q=G) (hG:B32≤G) :
 Calls Tryz.prog 78 #[.agg #[.bool s,.slice A n c],.slice B m d] w (GivesRQ w (mkRat p q) k):=by
 have HG:=Lib.hid hg
 have HG0:Hid (G ≠ 0):=by
  show G ≠ 0
  have:=Nat.gcd_pos_of_pos_right p.natAbs (Nat.pos_of_ne_zero hq)
  omega
 have hm:=mkRat_num (p:=p) hq
 rw [hg] at hm;have HM:=Lib.hid hm;clear hg hm
 go_enter Tryz.func78,Tryz.ntmps78
 go_wp2_with fail
 generalize hW:World.alloc _ _=W
 obtain ⟨hb,XP,Z,hzW⟩:=mkbx20_9 hW;clear hW;replace X:=X.below hb;replace Y:=Y.below hb;obtain ⟨xp0,xp1⟩:=XP.all
 go_upto_region 2 with (first
  | (go_at_call 116;(with_reducible refine (rgcd_nr X.rn Y (by omega)).mono ?_);rintro e w_g ⟨A_g,n_g,c_g,rfl,g,hh⟩
     rw [HG.out] at g;(try replace X:=X.below hh);(try replace Y:=Y.below hh);(try replace x:=x.below hh);(try replace y:=y.below hh);(try replace XP:=XP.below hh);(try replace Z:=Z.below hh);replace hb:=bend hb hh;obtain ⟨xp0,xp1⟩:=XP.all))
 have hng:2≤n_g:=by
  rcases Nat.lt_or_ge n_g 2 with h | h
  · have h1:=val_lt (lim_limbs B32_two G)
    rw [val_limbs B32_two,g.1.1] at h1
    have h2:B32 ^ n_g≤B32 ^ 1:=Nat.pow_le_pow_right (by decide) (by omega)
    rw [Nat.pow_one] at h2
    omega
  · exact h
 have hn0:((n_g:Int) == 0)=false:=by simp;omega
 have hn1:((n_g:Int) == 1)=false:=by simp;omega
 clear hng hG
 have hfd:∀ (A:Option Addr) (n c:Nat) (A':Option Addr) (n' c':Nat) (w:World),(Instr.field 175 (.agg #[.slice A n c,.slice A' n' c']) 0).run Tryz.prog w=.ok (.slice A n c) w:=fun _ _ _ _ _ _ _=>by kernel_rfl
 go_upto_region 4 with (fail)
 replace X:=X.below (Below.refl _ _).drew
 replace Y:=Y.below (Below.refl _ _).drew
 replace g:=g.below (Below.refl _ _).drew
 replace XP:=XP.below (Below.refl _ _).drew
 replace Z:=Z.below (Below.refl _ _).drew
 replace hb:=hb.drew
 go_region_held3 (fun w'=>w'.cell? ⟨w.heap.size,0,none⟩=some (.bool s)∧w'.cell? ⟨w.heap.size,1,none⟩=some (.slice A n c))
  (first | with_reducible exact ⟨XP.c0,XP.c1⟩ | with_reducible exact ⟨(set3_cell _ _ _ _ _ _ _ (by omega)).trans XP.c0,(set3_cell _ _ _ _ _ _ _ (by omega)).trans XP.c1⟩)
  (first
  | (go_at_call 117;(with_reducible refine (rdm_nr X.rn g (by omega) (by omega) HG0.out).mono ?_);rintro e w_x ⟨A_x,n_x,c_x,A_r,n_r,c_r,rfl,x,xr,hh⟩
     (try replace X:=X.below hh);(try replace Y:=Y.below hh);(try replace g:=g.below hh);(try replace y:=y.below hh);(try replace XP:=XP.below hh);(try replace Z:=Z.below hh);replace hb:=bend hb hh;have zf0:=Z.f0;have zf1:=Z.f1;have zf2:=Z.f2;obtain ⟨z0,z1,z2⟩:=Z.all)
  | (go_at_call 117;(with_reducible refine (rdm_nr Y g (by omega) (by omega) HG0.out).mono ?_);rintro e w_y ⟨A_y,n_y,c_y,A_t,n_t,c_t,rfl,y,yr,hh⟩
     (try replace X:=X.below hh);(try replace Y:=Y.below hh);(try replace g:=g.below hh);(try replace x:=x.below hh);(try replace XP:=XP.below hh);(try replace Z:=Z.below hh);replace hb:=bend hb hh;have zf0:=Z.f0;have zf1:=Z.f1;have zf2:=Z.f2;obtain ⟨z0,z1,z2⟩:=Z.all))
 go_wp2_with fail
 have Z2:=Z.set3 (.bool s) (.slice A_x n_x c_x) (.slice A_y n_y c_y)
 obtain ⟨g0,g1,g2⟩:=Z2.all
 refine bodyPost_ret (v:=.agg #[.bool s,.slice A_x n_x c_x,.slice A_y n_y c_y]) (by simp [results,Tryz.results78,go_sem,g0,g1,g2]) rfl ?_
 have hm:=HM.out
 have hr:RQ w_y s A_x n_x c_x A_y n_y c_y (mkRat p q) k:=⟨⟨X.1.trans (by rw [decide_eq_decide];exact hm.2.2.symm),by rw [hm.1];exact x⟩,by rw [hm.2.1];exact y⟩
 exact ⟨s,_,_,_,_,_,_,rfl,hr.set3 Z _ _ _,below_set3 hb (by omega) _ _ _⟩
theorem made_small {s:Bool} {A B:Option Addr} {n c m d k q G:Nat} {p:Int} (X:RG w s A n c p k) (Y:RN w B m d q k) (hk:k≤100000) (hq:q ≠ 0) (hg:Nat.gcd p.natAbs q=G) (hG:G < B32) (hG1:G ≠ 1) :
 Calls Tryz.prog 78 #[.agg #[.bool s,.slice A n c],.slice B m d] w (GivesRQ w (mkRat p q) k):=by
 have HG:=Lib.hid hg
 have HG0:Hid (G ≠ 0):=by
  show G ≠ 0
  have:=Nat.gcd_pos_of_pos_right p.natAbs (Nat.pos_of_ne_zero hq)
  omega
 have hm:=mkRat_num (p:=p) hq
 rw [hg] at hm;have HM:=Lib.hid hm;clear hg hm
 go_enter Tryz.func78,Tryz.ntmps78
 go_wp2_with fail
 generalize hW:World.alloc _ _=W
 obtain ⟨hb,XP,Z,hzW⟩:=mkbx20_9 hW;clear hW;replace X:=X.below hb;replace Y:=Y.below hb;obtain ⟨xp0,xp1⟩:=XP.all
 go_upto_region 2 with (first
  | (go_at_call 116;(with_reducible refine (rgcd_nr X.rn Y (by omega)).mono ?_);rintro e w_g ⟨A_g,n_g,c_g,rfl,g,hh⟩
     rw [HG.out] at g;(try replace X:=X.below hh);(try replace Y:=Y.below hh);(try replace x:=x.below hh);(try replace y:=y.below hh);(try replace XP:=XP.below hh);(try replace Z:=Z.below hh);replace hb:=bend hb hh;obtain ⟨xp0,xp1⟩:=XP.all))
 have hl:limbs B32 G=[G]:=limbs_small B32_two hG HG0.out
 have hg1:=g.1;rw [hl] at hg1
 have hn:1=n_g:=hg1.1
 subst hn
 obtain ⟨gb,go,eA,hgc⟩:=hg1.at_ (by decide)
 subst eA
 obtain ⟨gx,hgx,hgc0⟩:=hgc 0 (by decide)
 have hgx1:G=gx:=by simpa using hgx
 subst hgx1
 have hc1:w_g.cell? ⟨gb,go,none⟩=some (.int .u32 (G:Int)):=by simpa using hgc0
 have hG2:((G:Int) == 1)=false:=by simp;omega
 clear hgc hgx hgc0 hg1 hl hG hG1
 have hfd:∀ (A:Option Addr) (n c:Nat) (A':Option Addr) (n' c':Nat) (w:World),(Instr.field 175 (.agg #[.slice A n c,.slice A' n' c']) 0).run Tryz.prog w=.ok (.slice A n c) w:=fun _ _ _ _ _ _ _=>by kernel_rfl
 go_upto_region 4 with (fail)
 replace X:=X.below (Below.refl _ _).drew
 replace Y:=Y.below (Below.refl _ _).drew
 replace g:=g.below (Below.refl _ _).drew
 replace XP:=XP.below (Below.refl _ _).drew
 replace Z:=Z.below (Below.refl _ _).drew
 replace hb:=hb.drew
 go_region_held3 (fun w'=>w'.cell? ⟨w.heap.size,0,none⟩=some (.bool s)∧w'.cell? ⟨w.heap.size,1,none⟩=some (.slice A n c))
  (first | with_reducible exact ⟨XP.c0,XP.c1⟩ | with_reducible exact ⟨(set3_cell _ _ _ _ _ _ _ (by omega)).trans XP.c0,(set3_cell _ _ _ _ _ _ _ (by omega)).trans XP.c1⟩)
  (first
  | (go_at_call 117;(with_reducible refine (rdm_nr X.rn g (by omega) (by omega) HG0.out).mono ?_);rintro e w_x ⟨A_x,n_x,c_x,A_r,n_r,c_r,rfl,x,xr,hh⟩
     (try replace X:=X.below hh);(try replace Y:=Y.below hh);(try replace g:=g.below hh);(try replace y:=y.below hh);(try replace XP:=XP.below hh);(try replace Z:=Z.below hh);replace hb:=bend hb hh;have zf0:=Z.f0;have zf1:=Z.f1;have zf2:=Z.f2;obtain ⟨z0,z1,z2⟩:=Z.all)
  | (go_at_call 117;(with_reducible refine (rdm_nr Y g (by omega) (by omega) HG0.out).mono ?_);rintro e w_y ⟨A_y,n_y,c_y,A_t,n_t,c_t,rfl,y,yr,hh⟩
     (try replace X:=X.below hh);(try replace Y:=Y.below hh);(try replace g:=g.below hh);(try replace x:=x.below hh);(try replace XP:=XP.below hh);(try replace Z:=Z.below hh);replace hb:=bend hb hh;have zf0:=Z.f0;have zf1:=Z.f1;have zf2:=Z.f2;obtain ⟨z0,z1,z2⟩:=Z.all))
 go_wp2_with fail
 have Z2:=Z.set3 (.bool s) (.slice A_x n_x c_x) (.slice A_y n_y c_y)
 obtain ⟨g0,g1,g2⟩:=Z2.all
 refine bodyPost_ret (v:=.agg #[.bool s,.slice A_x n_x c_x,.slice A_y n_y c_y]) (by simp [results,Tryz.results78,go_sem,g0,g1,g2]) rfl ?_
 have hm:=HM.out
 have hr:RQ w_y s A_x n_x c_x A_y n_y c_y (mkRat p q) k:=⟨⟨X.1.trans (by rw [decide_eq_decide];exact hm.2.2.symm),by rw [hm.1];exact x⟩,by rw [hm.2.1];exact y⟩
 exact ⟨s,_,_,_,_,_,_,rfl,hr.set3 Z _ _ _,below_set3 hb (by omega) _ _ _⟩
theorem made_rq {s:Bool} {A B:Option Addr} {n c m d k q:Nat} {p:Int} (X:RG w s A n c p k) (Y:RN w B m d q k) (hk:k≤100000) (hq:q ≠ 0) :
 Calls Tryz.prog 78 #[.agg #[.bool s,.slice A n c],.slice B m d] w (GivesRQ w (mkRat p q) k):=by
 by_cases h1:Nat.gcd p.natAbs q=1
 · exact made_one X Y hk hq h1
 · rcases Nat.lt_or_ge (Nat.gcd p.natAbs q) B32 with h | h
   · exact made_small X Y hk hq rfl h h1
   · exact made_big X Y hk hq rfl h
end
section
theorem int1 (n:Int):Rat.divInt n 1=(n:Rat):=by
 have h:Rat.divInt n 1=mkRat n 1:=Rat.divInt_ofNat n 1
 rw [h]
 apply Rat.ext
 · simp [Rat.num_mkRat]
 · simp [Rat.den_mkRat]
end
section
open Go Go.RowKit
theorem RN.pos_ne {A:Option Addr} {n c V k:Nat} (h:RN w A n c V k) (hV:V ≠ 0):((n:Int) == 0)=false:=by
 have h1:=rn_pos h
 rw [decide_eq_true (show 0 < V by omega)] at h1
 have:=of_decide_eq_true h1
 simp;omega
theorem RN.zero_n {A:Option Addr} {n c V k:Nat} (h:RN w A n c V k) (hV:V=0):n=0:=by
 have h1:=h.1.1
 rw [hV,limbs_zero] at h1
 exact h1.symm
theorem fld02 (s:Bool) (A:Option Addr) (n c:Nat) (w:World):(Instr.field 47 (.agg #[.bool s,.slice A n c]) 1).run Tryz.prog w=.ok (.slice A n c) w:=by kernel_rfl
section
variable {w:World} {s:Bool} {A A':Option Addr} {n c n' c' k k1:Nat} {v:Rat}
theorem RQ.pz (h:RQ w s A n c A' n' c' v k):RZ w s A n c v.num k:=h.1.rz
theorem RQ.pg (h:RQ w s A n c A' n' c' v k):RG w s A n c v.num k:=h.1
theorem RQ.qn (h:RQ w s A n c A' n' c' v k):RN w A' n' c' v.den k:=h.2
theorem RQ.qz (h:RQ w s A n c A' n' c' v k):RZ w false A' n' c' (v.den:Int) k:=⟨v.den,h.2,rfl⟩
theorem RQ.more (h:RQ w s A n c A' n' c' v k) (hk:k≤k1):RQ w s A n c A' n' c' v k1:=⟨h.1.more hk,h.2.more hk⟩
end
theorem parts_eq (v:Rat):v=mkRat v.num v.den:=(Rat.mkRat_self v).symm
theorem mkbx21_9 {w W:World} {x0 x1 x2 x3 x4 x5:Value} (h:((w.alloc (Obj.cells #[x0,x1,x2] 26)).alloc (Obj.cells #[x3,x4,x5] 49))=W):Below w.heap.size w W∧B3 W (w.heap.size) x0 x1 x2∧B3R W (w.heap.size+1) x3 x4 x5∧W.heap.size=w.heap.size+2:=by subst h;exact ⟨by exact (((Below.refl _ _).alloc (Nat.le_refl _) _).alloc (by simp) _),by exact (B3.new' _ _ _ _ _ rfl).alloc _,by exact B3R.new' _ _ _ _ _ (by simp),by simp⟩
theorem rin3_zero {s:Bool} {A A':Option Addr} {n c n' c' k qq:Nat} {pp:Int} (p:ZR w s A n c pp k) (q:NR w A' n' c' qq k) (hk:k≤1000) (hk1:1≤k) (hq:qq=0) :
 Calls Tryz.prog 46 #[.agg #[.bool s,.slice A n c,.slice A' n' c']] w (GivesRQ w (mkRat pp (den1 qq)) (2*k)):=by
 have HQ:=Lib.hid hq
 have HD:Hid (mkRat pp 1=mkRat pp (den1 qq)):=by show _=_;rw [hq];rfl
 clear hq
 go_enter Tryz.func46,Tryz.ntmps46
 go_wp2_with fail
 generalize hW:World.alloc _ _=W
 obtain ⟨hb,XA,Z,hzW⟩:=mkbx21_9 hW;clear hW;replace p:=p.below hb;replace q:=q.below hb;obtain ⟨xa0,xa1,xa2⟩:=XA.all
 go_upto_region 2 with (first
  | (go_at_call 81;(with_reducible refine (rin_nr (2*k) q (by omega) rfl).mono ?_);rintro e w_x ⟨A_x,n_x,c_x,rfl,x,hh⟩
     (try replace p:=p.below hh);(try replace q:=q.below hh);(try replace y:=y.below hh);(try replace o:=o.below hh);(try replace r:=r.below hh);(try replace XA:=XA.below hh);(try replace Z:=Z.below hh);replace hb:=bend hb hh;obtain ⟨xa0,xa1,xa2⟩:=XA.all))
 have hx0:=x.zero_n HQ.out
 subst hx0
 go_wp2_with (first
  | (go_at_call 82;(with_reducible refine (rof_rn _).mono ?_);rintro e w_o ⟨A_o,n_o,c_o,rfl,o,hh⟩
     (try replace p:=p.below hh);(try replace q:=q.below hh);(try replace x:=x.below hh);(try replace y:=y.below hh);(try replace r:=r.below hh);(try replace XA:=XA.below hh);(try replace Z:=Z.below hh);replace hb:=bend hb hh;obtain ⟨xa0,xa1,xa2⟩:=XA.all)
  | (go_at_call 83;(with_reducible refine (rin2 p hk).mono ?_);rintro e w_y ⟨s_y,A_y,n_y,c_y,rfl,y,hh⟩
     (try replace p:=p.below hh);(try replace q:=q.below hh);(try replace x:=x.below hh);(try replace o:=o.below hh);(try replace r:=r.below hh);(try replace XA:=XA.below hh);(try replace Z:=Z.below hh);replace hb:=bend hb hh;obtain ⟨xa0,xa1,xa2⟩:=XA.all)
  | (go_at_call 78;(with_reducible refine (made_rq y (o.more (by omega)) (by omega) (by decide)).mono ?_);rintro e w_r ⟨s_r,A_r,n_r,c_r,B_r,m_r,d_r,rfl,r,hh⟩
     rw [HD.out] at r;(try replace p:=p.below hh);(try replace q:=q.below hh);(try replace x:=x.below hh);(try replace y:=y.below hh);(try replace o:=o.below hh);(try replace XA:=XA.below hh);(try replace Z:=Z.below hh);replace hb:=bend hb hh;obtain ⟨xa0,xa1,xa2⟩:=XA.all;have zf0:=Z.f0;have zf1:=Z.f1;have zf2:=Z.f2;obtain ⟨z0,z1,z2⟩:=Z.all))
 have Z2:=Z.set3 (.bool s_r) (.slice A_r n_r c_r) (.slice B_r m_r d_r)
 obtain ⟨g0,g1,g2⟩:=Z2.all
 refine bodyPost_ret (v:=.agg #[.bool s_r,.slice A_r n_r c_r,.slice B_r m_r d_r]) (by simp [results,Tryz.results46,go_sem,g0,g1,g2]) rfl ?_
 exact ⟨s_r,A_r,n_r,c_r,B_r,m_r,d_r,rfl,r.set3 Z _ _ _,below_set3 hb (by omega) _ _ _⟩
theorem rin3_pos {s:Bool} {A A':Option Addr} {n c n' c' k qq:Nat} {pp:Int} (p:ZR w s A n c pp k) (q:NR w A' n' c' qq k) (hk:k≤1000) (hk1:1≤k) (hq:qq ≠ 0) :
 Calls Tryz.prog 46 #[.agg #[.bool s,.slice A n c,.slice A' n' c']] w (GivesRQ w (mkRat pp (den1 qq)) (2*k)):=by
 have HQ:=Lib.hid hq
 have HD:Hid (mkRat pp qq=mkRat pp (den1 qq)):=by show _=_;rw [den1_of hq]
 clear hq
 go_enter Tryz.func46,Tryz.ntmps46
 go_wp2_with fail
 generalize hW:World.alloc _ _=W
 obtain ⟨hb,XA,Z,hzW⟩:=mkbx21_9 hW;clear hW;replace p:=p.below hb;replace q:=q.below hb;obtain ⟨xa0,xa1,xa2⟩:=XA.all
 go_upto_region 2 with (first
  | (go_at_call 81;(with_reducible refine (rin_nr (2*k) q (by omega) rfl).mono ?_);rintro e w_x ⟨A_x,n_x,c_x,rfl,x,hh⟩
     (try replace p:=p.below hh);(try replace q:=q.below hh);(try replace y:=y.below hh);(try replace o:=o.below hh);(try replace r:=r.below hh);(try replace XA:=XA.below hh);(try replace Z:=Z.below hh);replace hb:=bend hb hh;obtain ⟨xa0,xa1,xa2⟩:=XA.all))
 have hx0:=x.pos_ne HQ.out
 go_wp2_with (first
  | (go_at_call 83;(with_reducible refine (rin2 p hk).mono ?_);rintro e w_y ⟨s_y,A_y,n_y,c_y,rfl,y,hh⟩
     (try replace p:=p.below hh);(try replace q:=q.below hh);(try replace x:=x.below hh);(try replace o:=o.below hh);(try replace r:=r.below hh);(try replace XA:=XA.below hh);(try replace Z:=Z.below hh);replace hb:=bend hb hh;obtain ⟨xa0,xa1,xa2⟩:=XA.all)
  | (go_at_call 78;(with_reducible refine (made_rq y x (by omega) HQ.out).mono ?_);rintro e w_r ⟨s_r,A_r,n_r,c_r,B_r,m_r,d_r,rfl,r,hh⟩
     rw [HD.out] at r;(try replace p:=p.below hh);(try replace q:=q.below hh);(try replace x:=x.below hh);(try replace y:=y.below hh);(try replace o:=o.below hh);(try replace XA:=XA.below hh);(try replace Z:=Z.below hh);replace hb:=bend hb hh;obtain ⟨xa0,xa1,xa2⟩:=XA.all;have zf0:=Z.f0;have zf1:=Z.f1;have zf2:=Z.f2;obtain ⟨z0,z1,z2⟩:=Z.all))
 have Z2:=Z.set3 (.bool s_r) (.slice A_r n_r c_r) (.slice B_r m_r d_r)
 obtain ⟨g0,g1,g2⟩:=Z2.all
 refine bodyPost_ret (v:=.agg #[.bool s_r,.slice A_r n_r c_r,.slice B_r m_r d_r]) (by simp [results,Tryz.results46,go_sem,g0,g1,g2]) rfl ?_
 exact ⟨s_r,A_r,n_r,c_r,B_r,m_r,d_r,rfl,r.set3 Z _ _ _,below_set3 hb (by omega) _ _ _⟩
theorem rin3 {s:Bool} {A A':Option Addr} {n c n' c' k:Nat} {v:Rat} (X0:QR w s A n c A' n' c' v k) (hk:k≤1000) (hk1:1≤k) :
 Calls Tryz.prog 46 #[.agg #[.bool s,.slice A n c,.slice A' n' c']] w (GivesRQ w v (2*k)):=by
 obtain ⟨pp,qq,p,q,rfl⟩:=X0
 by_cases h:qq=0
 · exact rin3_zero p q hk hk1 h
 · exact rin3_pos p q hk hk1 h
theorem mkbx22_9 {w W:World} {x0 x1 x2 x3 x4:Value} (h:((w.alloc (Obj.cells #[x0,x1,x2] 49)).alloc (Obj.cells #[x3,x4] 47))=W):Below w.heap.size w W∧B3R W (w.heap.size) x0 x1 x2∧By W (w.heap.size+1) x3 x4∧W.heap.size=w.heap.size+2:=by subst h;exact ⟨by exact (((Below.refl _ _).alloc (Nat.le_refl _) _).alloc (by simp) _),by exact (B3R.new' _ _ _ _ _ rfl).alloc _,by exact By.new' _ _ _ _ (by simp),by simp⟩
theorem rden3 {s:Bool} {A A':Option Addr} {n c n' c' k:Nat} {v:Rat} (X:RQ w s A n c A' n' c' v k) :
 Calls Tryz.prog 120 #[.agg #[.bool s,.slice A n c,.slice A' n' c']] w fun e w'=>e=.returned (.agg #[.bool false,.slice A' n' c'])∧Below w.heap.size w w':=by
 have hn:=X.qn.pos_ne v.den_nz;clear X
 go_enter Tryz.func120,Tryz.ntmps120
 go_upto_region 1 with (fail)
 generalize hW:World.alloc _ _=W
 obtain ⟨hb,XA,Z,hzW⟩:=mkbx22_9 hW;clear hW;obtain ⟨xa0,xa1,xa2⟩:=XA.all;obtain ⟨z0,z1⟩:=Z.all;have zf0:=Z.f0;have zf1:=Z.f1
 go_wp2_with fail
 have Z2:=Z.set2 (.bool false) (.slice A' n' c')
 obtain ⟨g0,g1⟩:=Z2.all
 refine bodyPost_ret (v:=.agg #[.bool false,.slice A' n' c']) (by simp [results,Tryz.results120,go_sem,g0,g1]) rfl ?_
 exact ⟨rfl,below_set2' hb (by omega) _ _⟩
theorem mkbx23_9 {w W:World} {x0 x1 x2:Value} (h:(w.alloc (Obj.cells #[x0,x1,x2] 49))=W):Below w.heap.size w W∧B3R W (w.heap.size) x0 x1 x2∧W.heap.size=w.heap.size+1:=by subst h;exact ⟨by exact ((Below.refl _ _).alloc (Nat.le_refl _) _),by exact B3R.new' _ _ _ _ _ rfl,by simp⟩
theorem rsign3 {s:Bool} {A A':Option Addr} {n c n' c' k:Nat} {v:Rat} (X:RQ w s A n c A' n' c' v k) :
 Calls Tryz.prog 53 #[.agg #[.bool s,.slice A n c,.slice A' n' c']] w fun e w'=>e=.returned (.int .i64 (sgnQ v))∧Below w.heap.size w w':=by
 have HS:Hid (sgn v.num=sgnQ v):=by
  show _=_
  conv=>rhs;rw [parts_eq v]
  exact (sgnQ_mk v.den_nz).symm
 go_enter Tryz.func53,Tryz.ntmps53
 go_wp2_with fail
 generalize hW:World.alloc _ _=W
 obtain ⟨hb,XA,hzW⟩:=mkbx23_9 hW;clear hW;replace X:=X.below hb;obtain ⟨xa0,xa1,xa2⟩:=XA.all
 go_wp2_with (first
  | (go_at_call 91;(with_reducible refine (rsign2 X.pz).mono ?_);rintro e w_z ⟨rfl,hh⟩
     rw [HS.out];(try replace X:=X.below hh);(try replace XA:=XA.below hh);replace hb:=bend hb hh;obtain ⟨xa0,xa1,xa2⟩:=XA.all))
 go_ret;exact ⟨rfl,hb⟩
theorem mkbx24_9 {w W:World} {x0 x1 x2 x3 x4 x5:Value} (h:((w.alloc (Obj.cells #[x0,x1,x2] 49)).alloc (Obj.cells #[x3,x4,x5] 49))=W):Below w.heap.size w W∧B3R W (w.heap.size) x0 x1 x2∧B3R W (w.heap.size+1) x3 x4 x5∧W.heap.size=w.heap.size+2:=by subst h;exact ⟨by exact (((Below.refl _ _).alloc (Nat.le_refl _) _).alloc (by simp) _),by exact (B3R.new' _ _ _ _ _ rfl).alloc _,by exact B3R.new' _ _ _ _ _ (by simp),by simp⟩
theorem rminus3 {s:Bool} {A A':Option Addr} {n c n' c' k:Nat} {v:Rat} (X:RQ w s A n c A' n' c' v k) :
 Calls Tryz.prog 123 #[.agg #[.bool s,.slice A n c,.slice A' n' c']] w (GivesRQ w (-v) k):=by
 go_enter Tryz.func123,Tryz.ntmps123
 go_wp2_with fail
 generalize hW:World.alloc _ _=W
 obtain ⟨hb,XA,Z,hzW⟩:=mkbx24_9 hW;clear hW;replace X:=X.below hb
 replace X:=X.below (Below.refl _ _).drew
 replace XA:=XA.below (Below.refl _ _).drew
 replace Z:=Z.below (Below.refl _ _).drew
 replace hb:=hb.drew
 go_region_held3 (fun w'=>w'.cell? ⟨w.heap.size,0,none⟩=some (.bool s)∧w'.cell? ⟨w.heap.size,1,none⟩=some (.slice A n c)∧w'.cell? ⟨w.heap.size,2,none⟩=some (.slice A' n' c'))
  (first | with_reducible exact ⟨XA.c0,XA.c1,XA.c2⟩ | with_reducible exact ⟨(set3_cell _ _ _ _ _ _ _ (by omega)).trans XA.c0,(set3_cell _ _ _ _ _ _ _ (by omega)).trans XA.c1,(set3_cell _ _ _ _ _ _ _ (by omega)).trans XA.c2⟩)
  (first
  | (go_at_call 144;(with_reducible refine (rminus2 X.pz).mono ?_);rintro e w_y ⟨s_y,A_y,n_y,c_y,rfl,y,hh⟩
     (try replace X:=X.below hh);(try replace XA:=XA.below hh);(try replace Z:=Z.below hh);replace hb:=bend hb hh;have zf0:=Z.f0;have zf1:=Z.f1;have zf2:=Z.f2;obtain ⟨z0,z1,z2⟩:=Z.all))
 go_wp2_with fail
 have Z2:=Z.set3 (.bool s_y) (.slice A_y n_y c_y) (.slice A' n' c')
 obtain ⟨g0,g1,g2⟩:=Z2.all
 refine bodyPost_ret (v:=.agg #[.bool s_y,.slice A_y n_y c_y,.slice A' n' c']) (by simp [results,Tryz.results123,go_sem,g0,g1,g2]) rfl ?_
 have hr:RQ w_y s_y A_y n_y c_y A' n' c' (-v) k:=⟨by rw [Rat.neg_num];exact y,by rw [Rat.neg_den];exact X.qn⟩
 exact ⟨s_y,_,_,_,_,_,_,rfl,hr.set3 Z _ _ _,below_set3 hb (by omega) _ _ _⟩
theorem mkbx25_9 {w W:World} {x0 x1 x2 x3 x4 x5 x6 x7 x8:Value} (h:(((w.alloc (Obj.cells #[x0,x1,x2] 49)).alloc (Obj.cells #[x3,x4,x5] 49)).alloc (Obj.cells #[x6,x7,x8] 49))=W):Below w.heap.size w W∧B3R W (w.heap.size) x0 x1 x2∧B3R W (w.heap.size+1) x3 x4 x5∧B3R W (w.heap.size+1+1) x6 x7 x8∧W.heap.size=w.heap.size+3:=by subst h;exact ⟨by exact ((((Below.refl _ _).alloc (Nat.le_refl _) _).alloc (by simp) _).alloc (by simp;omega) _),by exact ((B3R.new' _ _ _ _ _ rfl).alloc _).alloc _,by exact (B3R.new' _ _ _ _ _ (by simp)).alloc _,by exact B3R.new' _ _ _ _ _ (by simp),by simp⟩
theorem rmul3 {s t:Bool} {A A' B B':Option Addr} {n c n' c' m d m' d' k k2:Nat} {v u:Rat} (X:RQ w s A n c A' n' c' v k) (Y:RQ w t B m d B' m' d' u k2) (hk:k≤10000) (hk2:k2≤10000) :
 Calls Tryz.prog 79 #[.agg #[.bool s,.slice A n c,.slice A' n' c'],.agg #[.bool t,.slice B m d,.slice B' m' d']] w (GivesRQ w (v*u) (k+k2)):=by
 have HE:Hid (mkRat (v.num*u.num) (v.den*u.den)=v*u):=by
  show _=_
  conv=>rhs;rw [parts_eq v,parts_eq u,mk_mul]
 have H0:Hid (v.den*u.den ≠ 0):=Nat.mul_ne_zero v.den_nz u.den_nz
 have HJ:Hid (v.den*u.den < B32 ^ (k+k2)):=by
  show _ < _
  rw [Nat.pow_add]
  exact Nat.mul_lt_mul'' X.qn.lt Y.qn.lt
 have hfd:=fld02
 go_enter Tryz.func79,Tryz.ntmps79
 go_wp2_with fail
 generalize hW:World.alloc _ _=W
 obtain ⟨hb,XA,XB,Z,hzW⟩:=mkbx25_9 hW;clear hW;replace X:=X.below hb;replace Y:=Y.below hb
 replace X:=X.below (Below.refl _ _).drew
 replace Y:=Y.below (Below.refl _ _).drew
 replace XA:=XA.below (Below.refl _ _).drew
 replace XB:=XB.below (Below.refl _ _).drew
 replace Z:=Z.below (Below.refl _ _).drew
 replace hb:=hb.drew
 go_region_held3 (fun w'=>w'.cell? ⟨w.heap.size,0,none⟩=some (.bool s)∧w'.cell? ⟨w.heap.size,1,none⟩=some (.slice A n c)∧w'.cell? ⟨w.heap.size,2,none⟩=some (.slice A' n' c')∧w'.cell? ⟨w.heap.size+1,0,none⟩=some (.bool t)∧w'.cell? ⟨w.heap.size+1,1,none⟩=some (.slice B m d)∧w'.cell? ⟨w.heap.size+1,2,none⟩=some (.slice B' m' d'))
  (first | with_reducible exact ⟨XA.c0,XA.c1,XA.c2,XB.c0,XB.c1,XB.c2⟩ | with_reducible exact ⟨(set3_cell _ _ _ _ _ _ _ (by omega)).trans XA.c0,(set3_cell _ _ _ _ _ _ _ (by omega)).trans XA.c1,(set3_cell _ _ _ _ _ _ _ (by omega)).trans XA.c2,(set3_cell _ _ _ _ _ _ _ (by omega)).trans XB.c0,(set3_cell _ _ _ _ _ _ _ (by omega)).trans XB.c1,(set3_cell _ _ _ _ _ _ _ (by omega)).trans XB.c2⟩)
  (first
  | (go_at_call 118;(with_reducible refine (rmul2 X.pz Y.pz (by omega) (by omega)).mono ?_);rintro e w_x ⟨s_x,A_x,n_x,c_x,rfl,x,hh⟩
     (try replace X:=X.below hh);(try replace Y:=Y.below hh);(try replace y:=y.below hh);(try replace r:=r.below hh);(try replace XA:=XA.below hh);(try replace XB:=XB.below hh);(try replace Z:=Z.below hh);replace hb:=bend hb hh)
  | (go_at_call 120;(with_reducible refine (rden3 X).mono ?_);rintro e w_z ⟨rfl,hh⟩
     (try replace X:=X.below hh);(try replace Y:=Y.below hh);(try replace x:=x.below hh);(try replace y:=y.below hh);(try replace r:=r.below hh);(try replace XA:=XA.below hh);(try replace XB:=XB.below hh);(try replace Z:=Z.below hh);replace hb:=bend hb hh)
  | (go_at_call 120;(with_reducible refine (rden3 Y).mono ?_);rintro e w_z ⟨rfl,hh⟩
     (try replace X:=X.below hh);(try replace Y:=Y.below hh);(try replace x:=x.below hh);(try replace y:=y.below hh);(try replace r:=r.below hh);(try replace XA:=XA.below hh);(try replace XB:=XB.below hh);(try replace Z:=Z.below hh);replace hb:=bend hb hh)
  | (go_at_call 119;(with_reducible refine (rmul_rn (k+k2) X.qn Y.qn (by omega) (by omega) HJ.out).mono ?_);rintro e w_y ⟨A_y,n_y,c_y,rfl,y,hh⟩
     (try replace X:=X.below hh);(try replace Y:=Y.below hh);(try replace x:=x.below hh);(try replace r:=r.below hh);(try replace XA:=XA.below hh);(try replace XB:=XB.below hh);(try replace Z:=Z.below hh);replace hb:=bend hb hh)
  | (go_at_call 78;(with_reducible refine (made_rq x y (by omega) H0.out).mono ?_);rintro e w_r ⟨s_r,A_r,n_r,c_r,B_r,m_r,d_r,rfl,r,hh⟩
     rw [HE.out] at r;(try replace X:=X.below hh);(try replace Y:=Y.below hh);(try replace x:=x.below hh);(try replace y:=y.below hh);(try replace XA:=XA.below hh);(try replace XB:=XB.below hh);(try replace Z:=Z.below hh);replace hb:=bend hb hh;have zf0:=Z.f0;have zf1:=Z.f1;have zf2:=Z.f2;obtain ⟨z0,z1,z2⟩:=Z.all))
 go_wp2_with fail
 have Z2:=Z.set3 (.bool s_r) (.slice A_r n_r c_r) (.slice B_r m_r d_r)
 obtain ⟨g0,g1,g2⟩:=Z2.all
 refine bodyPost_ret (v:=.agg #[.bool s_r,.slice A_r n_r c_r,.slice B_r m_r d_r]) (by simp [results,Tryz.results79,go_sem,g0,g1,g2]) rfl ?_
 exact ⟨s_r,A_r,n_r,c_r,B_r,m_r,d_r,rfl,r.set3 Z _ _ _,below_set3 hb (by omega) _ _ _⟩
end
section
open Go Go.RowKit
def VRG (v:Int) (k:Nat) (x:Value) (w:World):Prop:=∃ s A n c,x=.agg #[.bool s,.slice A n c]∧RG w s A n c v k
theorem RG.box {T:TypeId} {w w':World} {g:Nat} {cs:Array Value} {s:Bool} {A:Option Addr} {n c k:Nat} {v:Int} (h:RG w s A n c v k) (B:BoxAt T w g cs) (ho:Only g w w'):RG w' s A n c v k:=h.only (B.offx h.2.1) ho
theorem stays_r (v:Int) (k:Nat):Stays (VRG v k) :=
 ⟨fun _ _ _ ⟨s,A,n,c,h1,h2⟩ hb=>⟨s,A,n,c,h1,h2.below hb⟩,fun _ _ _ _ _ _ ⟨s,A,n,c,h1,h2⟩ hB ho=>⟨s,A,n,c,h1,h2.box hB ho⟩⟩
theorem run_load3 {e:Operand→Value} {x:Operand} {d:Option Tmp} {y g:Nat} {pos:String} {af:Array Edge} {u v z:Value} (h:e x=.pointer (some ⟨g,0,none⟩)) (h0:w.cell? ⟨g,0,none⟩=some u) (h1:w.cell? ⟨g,1,none⟩=some v) (h2:w.cell? ⟨g,2,none⟩=some z) :
 (execOp e ⟨d,.load 49 x,y,pos,af,none⟩).run Tryz.prog w=.ok (.value (.agg #[u,v,z])) w:=by
 go_simp
theorem run_load32 {e:Operand→Value} {x:Operand} {d:Option Tmp} {y g:Nat} {pos:String} {af:Array Edge} {u v:Value} (h:e x=.pointer (some ⟨g,0,none⟩)) (h0:w.cell? ⟨g,0,none⟩=some u) (h1:w.cell? ⟨g,1,none⟩=some v) :
 (execOp e ⟨d,.load 47 x,y,pos,af,none⟩).run Tryz.prog w=.ok (.value (.agg #[u,v])) w:=by
 go_simp
theorem run_fa0 {e:Operand→Value} {x:Operand} {d:Option Tmp} {y g:Nat} {pos:String} {af:Array Edge} (h:e x=.pointer (some ⟨g,0,none⟩)) :
 (execOp e ⟨d,.fieldAddr 49 x 0,y,pos,af,none⟩).run Tryz.prog w=.ok (.value (.pointer (some ⟨g,0,none⟩))) w:=by
 go_simp
theorem store_r {ac:Act} {x z:Operand} {y g:Nat} {pos:String} {af:Array Edge} {Q:Exit→Act→World→Prop} {V:Int} {k:Nat} (p1:ac.eval x=.pointer (some ⟨g,0,none⟩)) (h:VRG V k (ac.eval z) w) (B:BoxAt 47 w g #[.bool false,.slice none 0 0]) :
 (⟨none,.store 47 x z,y,pos,af,none⟩:Oper).wp Tryz.prog ac w (fun a'' w''=>a''=ac∧Only g w w''∧∃ cs',BoxAt 47 w'' g cs'∧(fun cs w=>∃ s A n c,cs=#[.bool s,.slice A n c]∧RG w s A n c V k) cs' w'') Q:=by
 obtain ⟨s1,A1,n1,c1,h1,h2⟩:=h
 have Z:By w g (Value.bool false) (Value.slice none 0 0):=B.at_
 unfold Oper.wp
 rw [run_storeR p1 h1 Z.c0 Z.c1 Z.f0 Z.f1,Oper.upon_skip]
 refine ⟨put_none ac undef,(((Only.refl g w).setCell 0 _).setCell 1 _),#[.bool s1,.slice A1 n1 c1],⟨Z.set2 (Value.bool s1) (Value.slice A1 n1 c1),free2 _ _ _ _⟩,s1,A1,n1,c1,rfl,h2.box B (((Only.refl g w).setCell 0 _).setCell 1 _)⟩
def VRQ (v:Rat) (k:Nat) (x:Value) (w:World):Prop:=∃ s A n c B m d,x=.agg #[.bool s,.slice A n c,.slice B m d]∧RQ w s A n c B m d v k
theorem RQ.box {T:TypeId} {w w':World} {g:Nat} {cs:Array Value} {s:Bool} {A A':Option Addr} {n c n' c' k:Nat} {v:Rat} (h:RQ w s A n c A' n' c' v k) (B:BoxAt T w g cs) (ho:Only g w w'):RQ w' s A n c A' n' c' v k:=⟨h.1.box B ho,h.2.only (B.offx h.2.1) ho⟩
theorem stays_rq (v:Rat) (k:Nat):Stays (VRQ v k) :=
 ⟨fun _ _ _ ⟨s,A,n,c,B,m,d,h1,h2⟩ hb=>⟨s,A,n,c,B,m,d,h1,h2.below hb⟩,fun _ _ _ _ _ _ ⟨s,A,n,c,B,m,d,h1,h2⟩ hB ho=>⟨s,A,n,c,B,m,d,h1,h2.box hB ho⟩⟩
theorem run_alloc3 {e:Operand→Value} {d:Option Tmp} {y:Nat} {pos:String} {af:Array Edge} :
 (execOp e ⟨d,.alloc 49,y,pos,af,none⟩).run Tryz.prog w=.ok (.value (.pointer (some ⟨w.heap.size,0,none⟩))) (w.alloc (.cells #[.bool false,.slice none 0 0,.slice none 0 0] 49)):=by
 go_simp
theorem run_store3 {e:Operand→Value} {x z:Operand} {d:Option Tmp} {y g:Nat} {pos:String} {af:Array Edge} {s:Bool} {A B:Option Addr} {n c m k:Nat} {u0 v0 z0:Value} (h:e x=.pointer (some ⟨g,0,none⟩)) (hz:e z=.agg #[.bool s,.slice A n c,.slice B m k]) (h0:w.cell? ⟨g,0,none⟩=some u0) (h1:w.cell? ⟨g,1,none⟩=some v0) (h2:w.cell? ⟨g,2,none⟩=some z0) (f0:w.frozen? ⟨g,0,none⟩=false) (f1:w.frozen? ⟨g,1,none⟩=false) (f2:w.frozen? ⟨g,2,none⟩=false) :
 (execOp e ⟨d,.store 49 x z,y,pos,af,none⟩).run Tryz.prog w=.ok .skip (((w.setCell ⟨g,0,none⟩ (.bool s)).setCell ⟨g,1,none⟩ (.slice A n c)).setCell ⟨g,2,none⟩ (.slice B m k)):=by
 go_simp
theorem store_rq {ac:Act} {x z:Operand} {y g:Nat} {pos:String} {af:Array Edge} {Q:Exit→Act→World→Prop} {V:Rat} {k:Nat} (p1:ac.eval x=.pointer (some ⟨g,0,none⟩)) (h:VRQ V k (ac.eval z) w) (B:BoxAt 49 w g #[.bool false,.slice none 0 0,.slice none 0 0]) :
 (⟨none,.store 49 x z,y,pos,af,none⟩:Oper).wp Tryz.prog ac w (fun a'' w''=>a''=ac∧Only g w w''∧∃ cs',BoxAt 49 w'' g cs'∧(fun cs w=>∃ s A n c B m d,cs=#[.bool s,.slice A n c,.slice B m d]∧RQ w s A n c B m d V k) cs' w'') Q:=by
 obtain ⟨s1,A1,n1,c1,B1,m1,d1,h1,h2⟩:=h
 have Z:B3R w g (Value.bool false) (Value.slice none 0 0) (Value.slice none 0 0):=B.at_
 unfold Oper.wp
 rw [run_store3 p1 h1 Z.c0 Z.c1 Z.c2 Z.f0 Z.f1 Z.f2,Oper.upon_skip]
 refine ⟨put_none ac undef,((((Only.refl g w).setCell 0 _).setCell 1 _).setCell 2 _),#[.bool s1,.slice A1 n1 c1,.slice B1 m1 d1],⟨Z.set3 (Value.bool s1) (Value.slice A1 n1 c1) (Value.slice B1 m1 d1),free3 _ _ _ _ _ _ _⟩,s1,A1,n1,c1,B1,m1,d1,rfl,h2.box B ((((Only.refl g w).setCell 0 _).setCell 1 _).setCell 2 _)⟩
end
section
open Go Go.RowKit
theorem rc_gesso_gessoref03_den {e:Operand→Value} {x0:Operand} {d:Option Tmp} {y:Nat} {pos:String} {af:Array Edge} {u0:Value} (h0:e x0=u0) (hf:e (.func 120)=.func (.func 120) #[] #[]) :
 (execOp e ⟨d,.call ⟨.value (.func 120),#[x0],#[49]⟩,y,pos,af,none⟩).run Tryz.prog w=.ok (.enter 120 #[u0]) w:=by
 go_simp
theorem rc_gesso_gessoref02_Mul {e:Operand→Value} {x0 x1:Operand} {d:Option Tmp} {y:Nat} {pos:String} {af:Array Edge} {u0 u1:Value} (h0:e x0=u0) (h1:e x1=u1) (hf:e (.func 118)=.func (.func 118) #[] #[]) :
 (execOp e ⟨d,.call ⟨.value (.func 118),#[x0,x1],#[47,47]⟩,y,pos,af,none⟩).run Tryz.prog w=.ok (.enter 118 #[u0,u1]) w:=by
 go_simp
theorem rc_gesso_gessoref02_Add {e:Operand→Value} {x0 x1:Operand} {d:Option Tmp} {y:Nat} {pos:String} {af:Array Edge} {u0 u1:Value} (h0:e x0=u0) (h1:e x1=u1) (hf:e (.func 124)=.func (.func 124) #[] #[]) :
 (execOp e ⟨d,.call ⟨.value (.func 124),#[x0,x1],#[47,47]⟩,y,pos,af,none⟩).run Tryz.prog w=.ok (.enter 124 #[u0,u1]) w:=by
 go_simp
def F_radd (s:Bool) (t:Bool) (A:Option Addr) (A':Option Addr) (B:Option Addr) (B':Option Addr) (n:Nat) (c:Nat) (n':Nat) (c':Nat) (m:Nat) (d:Nat) (m':Nat) (d':Nat) (k:Nat) (k2:Nat) (g1:Nat) (g2:Nat) (v:Rat) (u:Rat) (sl:Nat):Value→World→Prop :=
 match sl with
 | 6=>fun x _=>x=Value.pointer (some ⟨g1,0,none⟩)
 | 7=>fun x _=>x=Value.agg #[.bool s,.slice A n c]
 | 8=>fun x _=>x=Value.agg #[.bool t,.slice B m d,.slice B' m' d']
 | 9=>fun x _=>x=Value.agg #[.bool false,.slice B' m' d']
 | 10=>VRG (v.num*(u.den:Int)) (k+k2)
 | 11=>fun x _=>x=Value.pointer (some ⟨g2,0,none⟩)
 | 12=>fun x _=>x=Value.agg #[.bool t,.slice B m d]
 | 13=>fun x _=>x=Value.agg #[.bool s,.slice A n c,.slice A' n' c']
 | 14=>fun x _=>x=Value.agg #[.bool false,.slice A' n' c']
 | 15=>VRG (u.num*(v.den:Int)) (k2+k)
 | 16=>VRG (v.num*(u.den:Int)+u.num*(v.den:Int)) (k+k2+1)
 | _=>fun _ _=>True
theorem radd_region {id:Nat} {ac:Act} {Q:Exit→Act→World→Prop} {s t:Bool} {A A' B B':Option Addr} {n c n' c' m d m' d' k k2 g1 g2:Nat} {v u:Rat}
 (hsz:16 < ac.tmps.size) (e2:ac.eval (.tmp 2)=Value.pointer (some ⟨g1,0,none⟩)) (e3:ac.eval (.tmp 3)=Value.pointer (some ⟨g2,0,none⟩)) (XA:B3R w g1 (.bool s) (.slice A n c) (.slice A' n' c')) (XB:B3R w g2 (.bool t) (.slice B m d) (.slice B' m' d')) (X:RQ w s A n c A' n' c' v k) (Y:RQ w t B m d B' m' d' u k2) (hk:k≤10000) (hk2:k2≤10000)
 (hend:∀ (V:Nat→Value) (w':World) (g:Nat) (s:Bool) (A:Option Addr) (n c:Nat),RG w' s A n c (v.num*(u.den:Int)+u.num*(v.den:Int)) (k+k2+1)→By w' g (.bool s) (.slice A n c)→Below w.heap.size w w'→w.heap.size≤g→V 5=.pointer (some ⟨g,0,none⟩)→Q .normal (putAll ac [6,7,8,9,10,11,12,13,14,15,16,5] V) w') :
 (Code.region id #[⟨some 6,.fieldAddr 49 (.tmp 2) 0,0, "ref.go:81",#[],none⟩,
  ⟨some 7,.load 47 (.tmp 6),47, "ref.go:81",#[⟨0,.data⟩],none⟩,
  ⟨some 8,.load 49 (.tmp 3),49, "ref.go:81",#[],none⟩,
  ⟨some 9,.call ⟨.value (.func 120),#[.tmp 8],#[49]⟩,47, "ref.go:81",#[⟨2,.data⟩],none⟩,
  ⟨some 10,.call ⟨.value (.func 118),#[.tmp 7,.tmp 9],#[47,47]⟩,47, "ref.go:81",#[⟨1,.data⟩,⟨3,.data⟩,⟨3,.chain⟩],none⟩,
  ⟨some 11,.fieldAddr 49 (.tmp 3) 0,0, "ref.go:81",#[],none⟩,
  ⟨some 12,.load 47 (.tmp 11),47, "ref.go:81",#[⟨5,.data⟩],none⟩,
  ⟨some 13,.load 49 (.tmp 2),49, "ref.go:81",#[],none⟩,
  ⟨some 14,.call ⟨.value (.func 120),#[.tmp 13],#[49]⟩,47, "ref.go:81",#[⟨7,.data⟩,⟨4,.chain⟩],none⟩,
  ⟨some 15,.call ⟨.value (.func 118),#[.tmp 12,.tmp 14],#[47,47]⟩,47, "ref.go:81",#[⟨6,.data⟩,⟨8,.data⟩,⟨8,.chain⟩],none⟩,
  ⟨some 16,.call ⟨.value (.func 124),#[.tmp 10,.tmp 15],#[47,47]⟩,47, "ref.go:81",#[⟨4,.data⟩,⟨9,.data⟩,⟨9,.chain⟩],none⟩,
  ⟨some 5,.alloc 47,0, "ref.go:81",#[],none⟩,
  ⟨none,.store 47 (.tmp 5) (.tmp 16),0, "ref.go:81",#[⟨11,.data⟩,⟨10,.data⟩,⟨10,.chain⟩,⟨0,.phase⟩,⟨1,.phase⟩,⟨2,.phase⟩,⟨3,.phase⟩,⟨4,.phase⟩,⟨5,.phase⟩,⟨6,.phase⟩,⟨7,.phase⟩,⟨8,.phase⟩,⟨9,.phase⟩,⟨10,.phase⟩,⟨11,.phase⟩],none⟩] true).wp Tryz.prog Q ac w:=by
 have hnd:([6,7,8,9,10,11,12,13,14,15,16,5]:List Nat).Nodup:=by decide
 have G:∀ (sv:Nat→Value) (t:Nat),t ∈ ([6,7,8,9,10,11,12,13,14,15,16,5]:List Nat)→t≤16→(putAll ac [6,7,8,9,10,11,12,13,14,15,16,5] sv).eval (.tmp t)=sv t:=fun sv t ht h=>eval_putAll_mem (t:=t) [6,7,8,9,10,11,12,13,14,15,16,5] ac hnd ht (Nat.lt_of_le_of_lt h hsz)
 have E2:∀ sv:Nat→Value,(putAll ac [6,7,8,9,10,11,12,13,14,15,16,5] sv).eval (.tmp 2)=Value.pointer (some ⟨g1,0,none⟩):=fun sv=>(eval_putAll_not (v:=sv) [6,7,8,9,10,11,12,13,14,15,16,5] ac (show 2 ∉ _ by decide)).trans e2
 have E3:∀ sv:Nat→Value,(putAll ac [6,7,8,9,10,11,12,13,14,15,16,5] sv).eval (.tmp 3)=Value.pointer (some ⟨g2,0,none⟩):=fun sv=>(eval_putAll_not (v:=sv) [6,7,8,9,10,11,12,13,14,15,16,5] ac (show 3 ∉ _ by decide)).trans e3
 refine wp_region_flow 47 #[.bool false,.slice none 0 0] [6,7,8,9,10,11,12,13,14,15,16,5] 11 12 5 (⟨some 5,.alloc 47,0, "ref.go:81",#[],none⟩) (⟨none,.store 47 (.tmp 5) (.tmp 16),0, "ref.go:81",#[⟨11,.data⟩,⟨10,.data⟩,⟨10,.chain⟩,⟨0,.phase⟩,⟨1,.phase⟩,⟨2,.phase⟩,⟨3,.phase⟩,⟨4,.phase⟩,⟨5,.phase⟩,⟨6,.phase⟩,⟨7,.phase⟩,⟨8,.phase⟩,⟨9,.phase⟩,⟨10,.phase⟩,⟨11,.phase⟩],none⟩) (F_radd s t A A' B B' n c n' c' m d m' d' k k2 g1 g2 v u) (fun cs w=>∃ s A n c,cs=#[.bool s,.slice A n c]∧RG w s A n c (v.num*(u.den:Int)+u.num*(v.den:Int)) (k+k2+1)) (by kernel_rfl) (by kernel_rfl) rfl hnd rfl rfl rfl rfl ?_ rfl rfl ⟨⟨11,.data⟩,by simp,rfl,rfl⟩ ?_ (free2 _ _ _ _) (fun e w'=>run_allocR) ?_ ?_ ?_ ?_
 · intro i o h1 h2
   match i,h1 with
   | 0,h1=>cases h1;cases h2
   | 1,h1=>cases h1;cases h2
   | 2,h1=>cases h1;cases h2
   | 3,h1=>cases h1;cases h2
   | 4,h1=>cases h1;cases h2
   | 5,h1=>cases h1;cases h2
   | 6,h1=>cases h1;cases h2
   | 7,h1=>cases h1;cases h2
   | 8,h1=>cases h1;cases h2
   | 9,h1=>cases h1;cases h2
   | 10,h1=>cases h1;cases h2
   | 11,h1=>cases h1;cases h2
   | 12,h1=>cases h1;rfl
   | i+13,h1=>cases h1
 · intro t
   unfold F_radd
   split <;> first | exact stays_eq _ | exact stays_q _ _ | exact stays_z _ _ | exact stays_r _ _ | exact stays_qe _ _ | exact stays_qs _ _ | exact stays_true
 · intro i o t sv w' ho hia hd J0 hf
   have X:=X.below J0;have Y:=Y.below J0;have XA:=XA.below J0;have XB:=XB.below J0
   match i,ho with
   | 0,ho =>
     obtain rfl:⟨some 6,.fieldAddr 49 (.tmp 2) 0,0, "ref.go:81",#[],none⟩=o:=Option.some.inj ho
     cases hd
     refine wpOp_plain' (o:=⟨some 6,.fieldAddr 49 (.tmp 2) 0,0, "ref.go:81",#[],none⟩) rfl rfl ?_
     unfold Oper.wp
     rw [run_fa0 (E2 sv),Oper.upon_value]
     exact ⟨_,rfl,Below.refl _ _,rfl⟩
   | 1,ho =>
     obtain rfl:⟨some 7,.load 47 (.tmp 6),47, "ref.go:81",#[⟨0,.data⟩],none⟩=o:=Option.some.inj ho
     cases hd
     have f6:sv 6=Value.pointer (some ⟨g1,0,none⟩):=hf ⟨0,.data⟩ (by simp) rfl _ 6 rfl rfl (by decide)
     refine wpOp_plain' (o:=⟨some 7,.load 47 (.tmp 6),47, "ref.go:81",#[⟨0,.data⟩],none⟩) rfl rfl ?_
     unfold Oper.wp
     rw [run_load32 ((G sv 6 (by decide) (by decide)).trans f6) XA.c0 XA.c1,Oper.upon_value]
     exact ⟨_,rfl,Below.refl _ _,rfl⟩
   | 2,ho =>
     obtain rfl:⟨some 8,.load 49 (.tmp 3),49, "ref.go:81",#[],none⟩=o:=Option.some.inj ho
     cases hd
     refine wpOp_plain' (o:=⟨some 8,.load 49 (.tmp 3),49, "ref.go:81",#[],none⟩) rfl rfl ?_
     unfold Oper.wp
     rw [run_load3 (E3 sv) XB.c0 XB.c1 XB.c2,Oper.upon_value]
     exact ⟨_,rfl,Below.refl _ _,rfl⟩
   | 3,ho =>
     obtain rfl:⟨some 9,.call ⟨.value (.func 120),#[.tmp 8],#[49]⟩,47, "ref.go:81",#[⟨2,.data⟩],none⟩=o:=Option.some.inj ho
     cases hd
     have f8:sv 8=Value.agg #[.bool t,.slice B m d,.slice B' m' d']:=hf ⟨2,.data⟩ (by simp) rfl _ 8 rfl rfl (by decide)
     refine wpOp_plain' (o:=⟨some 9,.call ⟨.value (.func 120),#[.tmp 8],#[49]⟩,47, "ref.go:81",#[⟨2,.data⟩],none⟩) rfl rfl ?_
     unfold Oper.wp
     rw [rc_gesso_gessoref03_den ((G sv 8 (by decide) (by decide)).trans f8) rfl,Oper.upon_enter]
     refine (rden3 Y).mono ?_
     rintro e w1 ⟨rfl,hh⟩
     exact ⟨_,rfl,hh,rfl⟩
   | 4,ho =>
     obtain rfl:⟨some 10,.call ⟨.value (.func 118),#[.tmp 7,.tmp 9],#[47,47]⟩,47, "ref.go:81",#[⟨1,.data⟩,⟨3,.data⟩,⟨3,.chain⟩],none⟩=o:=Option.some.inj ho
     cases hd
     have f7:sv 7=Value.agg #[.bool s,.slice A n c]:=hf ⟨1,.data⟩ (by simp) rfl _ 7 rfl rfl (by decide)
     have f9:sv 9=Value.agg #[.bool false,.slice B' m' d']:=hf ⟨3,.data⟩ (by simp) rfl _ 9 rfl rfl (by decide)
     refine wpOp_plain' (o:=⟨some 10,.call ⟨.value (.func 118),#[.tmp 7,.tmp 9],#[47,47]⟩,47, "ref.go:81",#[⟨1,.data⟩,⟨3,.data⟩,⟨3,.chain⟩],none⟩) rfl rfl ?_
     unfold Oper.wp
     rw [rc_gesso_gessoref02_Mul ((G sv 7 (by decide) (by decide)).trans f7) ((G sv 9 (by decide) (by decide)).trans f9) rfl,Oper.upon_enter]
     refine (rmul2 X.pz Y.qz (by omega) (by omega)).mono ?_
     rintro e w1 ⟨s1,A1,n1,c1,rfl,hq,hh⟩
     exact ⟨_,rfl,hh,s1,A1,n1,c1,rfl,hq⟩
   | 5,ho =>
     obtain rfl:⟨some 11,.fieldAddr 49 (.tmp 3) 0,0, "ref.go:81",#[],none⟩=o:=Option.some.inj ho
     cases hd
     refine wpOp_plain' (o:=⟨some 11,.fieldAddr 49 (.tmp 3) 0,0, "ref.go:81",#[],none⟩) rfl rfl ?_
     unfold Oper.wp
     rw [run_fa0 (E3 sv),Oper.upon_value]
     exact ⟨_,rfl,Below.refl _ _,rfl⟩
   | 6,ho =>
     obtain rfl:⟨some 12,.load 47 (.tmp 11),47, "ref.go:81",#[⟨5,.data⟩],none⟩=o:=Option.some.inj ho
     cases hd
     have f11:sv 11=Value.pointer (some ⟨g2,0,none⟩):=hf ⟨5,.data⟩ (by simp) rfl _ 11 rfl rfl (by decide)
     refine wpOp_plain' (o:=⟨some 12,.load 47 (.tmp 11),47, "ref.go:81",#[⟨5,.data⟩],none⟩) rfl rfl ?_
     unfold Oper.wp
     rw [run_load32 ((G sv 11 (by decide) (by decide)).trans f11) XB.c0 XB.c1,Oper.upon_value]
     exact ⟨_,rfl,Below.refl _ _,rfl⟩
   | 7,ho =>
     obtain rfl:⟨some 13,.load 49 (.tmp 2),49, "ref.go:81",#[],none⟩=o:=Option.some.inj ho
     cases hd
     refine wpOp_plain' (o:=⟨some 13,.load 49 (.tmp 2),49, "ref.go:81",#[],none⟩) rfl rfl ?_
     unfold Oper.wp
     rw [run_load3 (E2 sv) XA.c0 XA.c1 XA.c2,Oper.upon_value]
     exact ⟨_,rfl,Below.refl _ _,rfl⟩
   | 8,ho =>
     obtain rfl:⟨some 14,.call ⟨.value (.func 120),#[.tmp 13],#[49]⟩,47, "ref.go:81",#[⟨7,.data⟩,⟨4,.chain⟩],none⟩=o:=Option.some.inj ho
     cases hd
     have f13:sv 13=Value.agg #[.bool s,.slice A n c,.slice A' n' c']:=hf ⟨7,.data⟩ (by simp) rfl _ 13 rfl rfl (by decide)
     refine wpOp_plain' (o:=⟨some 14,.call ⟨.value (.func 120),#[.tmp 13],#[49]⟩,47, "ref.go:81",#[⟨7,.data⟩,⟨4,.chain⟩],none⟩) rfl rfl ?_
     unfold Oper.wp
     rw [rc_gesso_gessoref03_den ((G sv 13 (by decide) (by decide)).trans f13) rfl,Oper.upon_enter]
     refine (rden3 X).mono ?_
     rintro e w1 ⟨rfl,hh⟩
     exact ⟨_,rfl,hh,rfl⟩
   | 9,ho =>
     obtain rfl:⟨some 15,.call ⟨.value (.func 118),#[.tmp 12,.tmp 14],#[47,47]⟩,47, "ref.go:81",#[⟨6,.data⟩,⟨8,.data⟩,⟨8,.chain⟩],none⟩=o:=Option.some.inj ho
     cases hd
     have f12:sv 12=Value.agg #[.bool t,.slice B m d]:=hf ⟨6,.data⟩ (by simp) rfl _ 12 rfl rfl (by decide)
     have f14:sv 14=Value.agg #[.bool false,.slice A' n' c']:=hf ⟨8,.data⟩ (by simp) rfl _ 14 rfl rfl (by decide)
     refine wpOp_plain' (o:=⟨some 15,.call ⟨.value (.func 118),#[.tmp 12,.tmp 14],#[47,47]⟩,47, "ref.go:81",#[⟨6,.data⟩,⟨8,.data⟩,⟨8,.chain⟩],none⟩) rfl rfl ?_
     unfold Oper.wp
     rw [rc_gesso_gessoref02_Mul ((G sv 12 (by decide) (by decide)).trans f12) ((G sv 14 (by decide) (by decide)).trans f14) rfl,Oper.upon_enter]
     refine (rmul2 Y.pz X.qz (by omega) (by omega)).mono ?_
     rintro e w1 ⟨s1,A1,n1,c1,rfl,hq,hh⟩
     exact ⟨_,rfl,hh,s1,A1,n1,c1,rfl,hq⟩
   | 10,ho =>
     obtain rfl:⟨some 16,.call ⟨.value (.func 124),#[.tmp 10,.tmp 15],#[47,47]⟩,47, "ref.go:81",#[⟨4,.data⟩,⟨9,.data⟩,⟨9,.chain⟩],none⟩=o:=Option.some.inj ho
     cases hd
     have h10:VRG (v.num*(u.den:Int)) (k+k2) (sv 10) w':=hf ⟨4,.data⟩ (by simp) rfl _ 10 rfl rfl (by decide)
     obtain ⟨s10,A10,n10,c10,f10,q10⟩:=h10
     have h15:VRG (u.num*(v.den:Int)) (k2+k) (sv 15) w':=hf ⟨9,.data⟩ (by simp) rfl _ 15 rfl rfl (by decide)
     obtain ⟨s15,A15,n15,c15,f15,q15⟩:=h15
     refine wpOp_plain' (o:=⟨some 16,.call ⟨.value (.func 124),#[.tmp 10,.tmp 15],#[47,47]⟩,47, "ref.go:81",#[⟨4,.data⟩,⟨9,.data⟩,⟨9,.chain⟩],none⟩) rfl rfl ?_
     unfold Oper.wp
     rw [rc_gesso_gessoref02_Add ((G sv 10 (by decide) (by decide)).trans f10) ((G sv 15 (by decide) (by decide)).trans f15) rfl,Oper.upon_enter]
     refine (radd2 (k+k2+1) q10.rz q15.rz (by omega) (by omega) (by omega)).mono ?_
     rintro e w1 ⟨s1,A1,n1,c1,rfl,hq,hh⟩
     exact ⟨_,rfl,hh,s1,A1,n1,c1,rfl,hq⟩
   | 11,ho=>exact absurd rfl hia
   | 12,ho=>cases ho;cases hd
   | i+13,ho=>cases ho
 · intro sv w' g J0 p1 p3 hf
   have h1:VRG (v.num*(u.den:Int)+u.num*(v.den:Int)) (k+k2+1) (sv 16) w':=hf ⟨10,.data⟩ (by simp) rfl _ 16 rfl rfl (by decide)
   rw [← G sv 16 (by decide) (by decide)] at h1
   refine store_r (V:=v.num*(u.den:Int)+u.num*(v.den:Int)) (k:=k+k2+1) (ac:=putAll ac [6,7,8,9,10,11,12,13,14,15,16,5] sv) (z:=.tmp 16) ?_ ?_ ?_
   · exact (G sv 5 (by decide) (by decide)).trans p1
   · exact h1
   · exact p3
 · rintro cs w1 w2 ⟨s1,A1,n1,c1,h1,h2⟩ hb
   exact ⟨s1,A1,n1,c1,h1,h2.below hb⟩
 · rintro sv w' g cs J0 hF p1 p2 p3 ⟨s1,A1,n1,c1,h1,h2⟩
   subst h1
   exact hend sv w' g _ _ _ _ h2 p3.at_ J0 p2 p1 
theorem radd3 {s t:Bool} {A A' B B':Option Addr} {n c n' c' m d m' d' k k2:Nat} {v u:Rat} (X:RQ w s A n c A' n' c' v k) (Y:RQ w t B m d B' m' d' u k2) (hk:k≤10000) (hk2:k2≤10000) :
 Calls Tryz.prog 93 #[.agg #[.bool s,.slice A n c,.slice A' n' c'],.agg #[.bool t,.slice B m d,.slice B' m' d']] w (GivesRQ w (v+u) (k+k2+1)):=by
 have HE:Hid (mkRat (v.num*(u.den:Int)+u.num*(v.den:Int)) (v.den*u.den)=v+u):=by
  show _=_
  conv=>rhs;rw [parts_eq v,parts_eq u,mk_add v.den_nz u.den_nz]
 have H0:Hid (v.den*u.den ≠ 0):=Nat.mul_ne_zero v.den_nz u.den_nz
 have HJ:Hid (v.den*u.den < B32 ^ (k+k2+1)):=by
  show _ < _
  have h1:=Nat.mul_lt_mul'' X.qn.lt Y.qn.lt
  rw [← Nat.pow_add] at h1
  exact Nat.lt_of_lt_of_le h1 (Nat.pow_le_pow_right (by decide) (by omega))
 have hfd:=fld02
 go_enter Tryz.func93,Tryz.ntmps93
 go_wp2_with fail
 generalize hW:World.alloc _ _=W
 obtain ⟨hb,XA,XB,Z,hzW⟩:=mkbx25_9 hW;clear hW;replace X:=X.below hb;replace Y:=Y.below hb
 refine radd_region (by simp) rfl rfl XA XB X Y hk hk2 ?_
 intro V w_x g_x s_x A_x n_x c_x x XP hh hg_x hv5
 simp only [putAll,Act.put,List.setIfInBounds_toArray,List.set_cons_zero,List.set_cons_succ,hv5]
 clear hv5;replace X:=X.below hh;replace Y:=Y.below hh;replace XA:=XA.below hh;replace XB:=XB.below hh;replace Z:=Z.below hh;replace hb:=bend hb hh
 go_upto_region 2 with (fail)
 replace X:=X.below (Below.refl _ _).drew
 replace Y:=Y.below (Below.refl _ _).drew
 replace x:=x.below (Below.refl _ _).drew
 replace XA:=XA.below (Below.refl _ _).drew
 replace XB:=XB.below (Below.refl _ _).drew
 replace XP:=XP.below (Below.refl _ _).drew
 replace Z:=Z.below (Below.refl _ _).drew
 replace hb:=hb.drew
 go_region_held3 (fun w'=>w'.cell? ⟨w.heap.size,0,none⟩=some (.bool s)∧w'.cell? ⟨w.heap.size,1,none⟩=some (.slice A n c)∧w'.cell? ⟨w.heap.size,2,none⟩=some (.slice A' n' c')∧w'.cell? ⟨w.heap.size+1,0,none⟩=some (.bool t)∧w'.cell? ⟨w.heap.size+1,1,none⟩=some (.slice B m d)∧w'.cell? ⟨w.heap.size+1,2,none⟩=some (.slice B' m' d')∧w'.cell? ⟨g_x,0,none⟩=some (.bool s_x)∧w'.cell? ⟨g_x,1,none⟩=some (.slice A_x n_x c_x))
  (first | with_reducible exact ⟨XA.c0,XA.c1,XA.c2,XB.c0,XB.c1,XB.c2,XP.c0,XP.c1⟩ | with_reducible exact ⟨(set3_cell _ _ _ _ _ _ _ (by omega)).trans XA.c0,(set3_cell _ _ _ _ _ _ _ (by omega)).trans XA.c1,(set3_cell _ _ _ _ _ _ _ (by omega)).trans XA.c2,(set3_cell _ _ _ _ _ _ _ (by omega)).trans XB.c0,(set3_cell _ _ _ _ _ _ _ (by omega)).trans XB.c1,(set3_cell _ _ _ _ _ _ _ (by omega)).trans XB.c2,(set3_cell _ _ _ _ _ _ _ (by omega)).trans XP.c0,(set3_cell _ _ _ _ _ _ _ (by omega)).trans XP.c1⟩)
  (first
  | (go_at_call 120;(with_reducible refine (rden3 X).mono ?_);rintro e w_z ⟨rfl,hh⟩
     (try replace X:=X.below hh);(try replace Y:=Y.below hh);(try replace x:=x.below hh);(try replace y:=y.below hh);(try replace r:=r.below hh);(try replace XA:=XA.below hh);(try replace XB:=XB.below hh);(try replace XP:=XP.below hh);(try replace Z:=Z.below hh);replace hb:=bend hb hh)
  | (go_at_call 120;(with_reducible refine (rden3 Y).mono ?_);rintro e w_z ⟨rfl,hh⟩
     (try replace X:=X.below hh);(try replace Y:=Y.below hh);(try replace x:=x.below hh);(try replace y:=y.below hh);(try replace r:=r.below hh);(try replace XA:=XA.below hh);(try replace XB:=XB.below hh);(try replace XP:=XP.below hh);(try replace Z:=Z.below hh);replace hb:=bend hb hh)
  | (go_at_call 119;(with_reducible refine (rmul_rn (k+k2+1) X.qn Y.qn (by omega) (by omega) HJ.out).mono ?_);rintro e w_y ⟨A_y,n_y,c_y,rfl,y,hh⟩
     (try replace X:=X.below hh);(try replace Y:=Y.below hh);(try replace x:=x.below hh);(try replace r:=r.below hh);(try replace XA:=XA.below hh);(try replace XB:=XB.below hh);(try replace XP:=XP.below hh);(try replace Z:=Z.below hh);replace hb:=bend hb hh)
  | (go_at_call 78;(with_reducible refine (made_rq x y (by omega) H0.out).mono ?_);rintro e w_r ⟨s_r,A_r,n_r,c_r,B_r,m_r,d_r,rfl,r,hh⟩
     rw [HE.out] at r;(try replace X:=X.below hh);(try replace Y:=Y.below hh);(try replace x:=x.below hh);(try replace y:=y.below hh);(try replace XA:=XA.below hh);(try replace XB:=XB.below hh);(try replace XP:=XP.below hh);(try replace Z:=Z.below hh);replace hb:=bend hb hh;have zf0:=Z.f0;have zf1:=Z.f1;have zf2:=Z.f2;obtain ⟨z0,z1,z2⟩:=Z.all))
 go_wp2_with fail
 have Z2:=Z.set3 (.bool s_r) (.slice A_r n_r c_r) (.slice B_r m_r d_r)
 obtain ⟨g0,g1,g2⟩:=Z2.all
 refine bodyPost_ret (v:=.agg #[.bool s_r,.slice A_r n_r c_r,.slice B_r m_r d_r]) (by simp [results,Tryz.results93,go_sem,g0,g1,g2]) rfl ?_
 exact ⟨s_r,A_r,n_r,c_r,B_r,m_r,d_r,rfl,r.set3 Z _ _ _,below_set3 hb (by omega) _ _ _⟩
theorem rsub3 {s t:Bool} {A A' B B':Option Addr} {n c n' c' m d m' d' k k2:Nat} {v u:Rat} (X:RQ w s A n c A' n' c' v k) (Y:RQ w t B m d B' m' d' u k2) (hk:k≤10000) (hk2:k2≤10000) :
 Calls Tryz.prog 92 #[.agg #[.bool s,.slice A n c,.slice A' n' c'],.agg #[.bool t,.slice B m d,.slice B' m' d']] w (GivesRQ w (v - u) (k+k2+1)):=by
 have HE:Hid (v+-u=v - u):=(Rat.sub_eq_add_neg v u).symm
 go_enter Tryz.func92,Tryz.ntmps92
 go_wp2_with fail
 generalize hW:World.alloc _ _=W
 obtain ⟨hb,XA,XB,Z,hzW⟩:=mkbx25_9 hW;clear hW;replace X:=X.below hb;replace Y:=Y.below hb
 replace X:=X.below (Below.refl _ _).drew
 replace Y:=Y.below (Below.refl _ _).drew
 replace XA:=XA.below (Below.refl _ _).drew
 replace XB:=XB.below (Below.refl _ _).drew
 replace Z:=Z.below (Below.refl _ _).drew
 replace hb:=hb.drew
 go_region_held3 (fun w'=>w'.cell? ⟨w.heap.size,0,none⟩=some (.bool s)∧w'.cell? ⟨w.heap.size,1,none⟩=some (.slice A n c)∧w'.cell? ⟨w.heap.size,2,none⟩=some (.slice A' n' c')∧w'.cell? ⟨w.heap.size+1,0,none⟩=some (.bool t)∧w'.cell? ⟨w.heap.size+1,1,none⟩=some (.slice B m d)∧w'.cell? ⟨w.heap.size+1,2,none⟩=some (.slice B' m' d'))
  (first | with_reducible exact ⟨XA.c0,XA.c1,XA.c2,XB.c0,XB.c1,XB.c2⟩ | with_reducible exact ⟨(set3_cell _ _ _ _ _ _ _ (by omega)).trans XA.c0,(set3_cell _ _ _ _ _ _ _ (by omega)).trans XA.c1,(set3_cell _ _ _ _ _ _ _ (by omega)).trans XA.c2,(set3_cell _ _ _ _ _ _ _ (by omega)).trans XB.c0,(set3_cell _ _ _ _ _ _ _ (by omega)).trans XB.c1,(set3_cell _ _ _ _ _ _ _ (by omega)).trans XB.c2⟩)
  (first
  | (go_at_call 123;(with_reducible refine (rminus3 Y).mono ?_);rintro e w_y ⟨s_y,A_y,n_y,c_y,B_y,m_y,d_y,rfl,y,hh⟩
     (try replace X:=X.below hh);(try replace Y:=Y.below hh);(try replace r:=r.below hh);(try replace XA:=XA.below hh);(try replace XB:=XB.below hh);(try replace Z:=Z.below hh);replace hb:=bend hb hh)
  | (go_at_call 93;(with_reducible refine (radd3 X y hk hk2).mono ?_);rintro e w_r ⟨s_r,A_r,n_r,c_r,B_r,m_r,d_r,rfl,r,hh⟩
     rw [HE.out] at r;(try replace X:=X.below hh);(try replace Y:=Y.below hh);(try replace y:=y.below hh);(try replace XA:=XA.below hh);(try replace XB:=XB.below hh);(try replace Z:=Z.below hh);replace hb:=bend hb hh;have zf0:=Z.f0;have zf1:=Z.f1;have zf2:=Z.f2;obtain ⟨z0,z1,z2⟩:=Z.all))
 go_wp2_with fail
 have Z2:=Z.set3 (.bool s_r) (.slice A_r n_r c_r) (.slice B_r m_r d_r)
 obtain ⟨g0,g1,g2⟩:=Z2.all
 refine bodyPost_ret (v:=.agg #[.bool s_r,.slice A_r n_r c_r,.slice B_r m_r d_r]) (by simp [results,Tryz.results92,go_sem,g0,g1,g2]) rfl ?_
 exact ⟨s_r,A_r,n_r,c_r,B_r,m_r,d_r,rfl,r.set3 Z _ _ _,below_set3 hb (by omega) _ _ _⟩
end
section
open Go Go.RowKit
theorem rats_no {s t:Bool} {A A' B B':Option Addr} {n c n' c' m d m' d':Nat} {la lb lc ld:List Nat} (p:Rd .u64 w A n la) (q:Rd .u64 w A' n' lc) (p2:Rd .u64 w B m lb) (q2:Rd .u64 w B' m' ld) (hn:n≤maxLen) (hi:(s == t && decide (la=lb))=false) :
 Calls Tryz.prog 47 #[.agg #[.bool s,.slice A n c,.slice A' n' c'],.agg #[.bool t,.slice B m d,.slice B' m' d']] w fun e w'=>e=.returned (.bool false)∧Below w.heap.size w w':=by
 have HI:=Lib.hid hi;clear hi
 go_enter Tryz.func47,Tryz.ntmps47
 go_wp2_with fail
 generalize hW:World.alloc _ _=W
 obtain ⟨hb,XA,XB,hzW⟩:=mkbx12_7 hW;clear hW;replace p:=p.below hb;replace q:=q.below hb;replace p2:=p2.below hb;replace q2:=q2.below hb;obtain ⟨xa0,xa1,xa2⟩:=XA.all;obtain ⟨xb0,xb1,xb2⟩:=XB.all
 go_wp2_with (first
  | (go_at_call 84;(with_reducible refine (ints_any s t la lb A B n c m d _ p p2 hn).mono ?_);rintro e w_z ⟨rfl,hh⟩
     rw [HI.out];(try replace p:=p.below hh);(try replace q:=q.below hh);(try replace p2:=p2.below hh);(try replace q2:=q2.below hh);(try replace XA:=XA.below hh);(try replace XB:=XB.below hh);replace hb:=bend hb hh;obtain ⟨xa0,xa1,xa2⟩:=XA.all;obtain ⟨xb0,xb1,xb2⟩:=XB.all))
 go_ret;exact ⟨rfl,hb⟩
theorem rats_yes {s t:Bool} {A A' B B':Option Addr} {n c n' c' m d m' d':Nat} {la lb lc ld:List Nat} (p:Rd .u64 w A n la) (q:Rd .u64 w A' n' lc) (p2:Rd .u64 w B m lb) (q2:Rd .u64 w B' m' ld) (hn:n≤maxLen) (hn':n'≤maxLen) (hi:(s == t && decide (la=lb))=true) :
 Calls Tryz.prog 47 #[.agg #[.bool s,.slice A n c,.slice A' n' c'],.agg #[.bool t,.slice B m d,.slice B' m' d']] w fun e w'=>e=.returned (.bool (decide (lc=ld)))∧Below w.heap.size w w':=by
 have HI:=Lib.hid hi;clear hi
 go_enter Tryz.func47,Tryz.ntmps47
 go_wp2_with fail
 generalize hW:World.alloc _ _=W
 obtain ⟨hb,XA,XB,hzW⟩:=mkbx12_7 hW;clear hW;replace p:=p.below hb;replace q:=q.below hb;replace p2:=p2.below hb;replace q2:=q2.below hb;obtain ⟨xa0,xa1,xa2⟩:=XA.all;obtain ⟨xb0,xb1,xb2⟩:=XB.all
 go_wp2_with (first
  | (go_at_call 84;(with_reducible refine (ints_any s t la lb A B n c m d _ p p2 hn).mono ?_);rintro e w_z ⟨rfl,hh⟩
     rw [HI.out];(try replace p:=p.below hh);(try replace q:=q.below hh);(try replace p2:=p2.below hh);(try replace q2:=q2.below hh);(try replace XA:=XA.below hh);(try replace XB:=XB.below hh);replace hb:=bend hb hh;obtain ⟨xa0,xa1,xa2⟩:=XA.all;obtain ⟨xb0,xb1,xb2⟩:=XB.all)
  | (go_at_call 85;(with_reducible refine (nats_any lc ld A' B' n' c' m' d' _ q q2 hn').mono ?_);rintro e w_z ⟨rfl,jj,rfl⟩
     replace hb:=below_drawn hb jj))
 go_ret;exact ⟨rfl,hb⟩
theorem rats_any {s t:Bool} {A A' B B':Option Addr} {n c n' c' m d m' d':Nat} {la lb lc ld:List Nat} (p:Rd .u64 w A n la) (q:Rd .u64 w A' n' lc) (p2:Rd .u64 w B m lb) (q2:Rd .u64 w B' m' ld) (hn:n≤maxLen) (hn':n'≤maxLen) (r:Bool) (hr:((s == t && decide (la=lb)) && decide (lc=ld))=r) :
 Calls Tryz.prog 47 #[.agg #[.bool s,.slice A n c,.slice A' n' c'],.agg #[.bool t,.slice B m d,.slice B' m' d']] w fun e w'=>e=.returned (.bool r)∧Below w.heap.size w w':=by
 cases h:(s == t && decide (la=lb)) with
 | false =>
   rw [h,Bool.false_and] at hr
   subst hr
   exact rats_no p q p2 q2 hn h
 | true =>
   rw [h,Bool.true_and] at hr
   subst hr
   exact rats_yes p q p2 q2 hn hn' h
end
section
open Go Go.RowKit
theorem mkbx26_9 {w W:World} {x0 x1 x2 x3:Value} (h:((w.alloc (Obj.cells #[x0,x1] 47)).alloc (Obj.cells #[x2,x3] 24))=W):Below w.heap.size w W∧By W (w.heap.size) x0 x1∧Bx W (w.heap.size+1) x2 x3∧W.heap.size=w.heap.size+2:=by subst h;exact ⟨by exact (((Below.refl _ _).alloc (Nat.le_refl _) _).alloc (by simp) _),by exact (By.new w _ _).alloc _,by exact Bx.new' _ _ _ _ (by simp),by simp⟩
theorem out2c {t:Bool} {B:Option Addr} {m d k:Nat} {v:Int} (Y:RG w t B m d v k) (hk:k≤200000) :
 Calls Tryz.prog 87 #[.agg #[.bool t,.slice B m d]] w fun e w'=>∃ A n c,e=.returned (.agg #[.bool t,.slice A n c])∧Rd .u64 w' A n (limbs B64 v.natAbs)∧n≤c∧Below w.heap.size w w':=by
 have hJ:=join32_limbs v.natAbs;have HJ:=Lib.hid hJ
 have hm:m≤2000000:=Nat.le_trans Y.2.2.2 (by omega)
 have hY:=Y.2.1;clear hJ
 go_enter Tryz.func87,Tryz.ntmps87
 go_wp2_with fail
 generalize hW:World.alloc _ _=W
 obtain ⟨hb,XB,Z,hz⟩:=mkbx26_9 hW;clear hW;replace hY:=hY.below hb
 replace hY:=hY.below (Below.refl _ _).drew
 replace XB:=XB.drew;replace Z:=Z.drew;replace hb:=hb.drew
 go_region_held3 (fun w'=>w'.cell? ⟨w.heap.size,0,none⟩=some (Value.bool t)∧w'.cell? ⟨w.heap.size,1,none⟩=some (Value.slice B m d))
  (first | with_reducible exact ⟨XB.c0,XB.c1⟩ | with_reducible exact ⟨(set2_cell _ _ _ _ _ _ (by omega)).trans XB.c0,(set2_cell _ _ _ _ _ _ (by omega)).trans XB.c1⟩)
  (first
  | (go_at_call 86;(with_reducible refine (rout_any (limbs B32 v.natAbs) B m d _ hY (lim_limbs B32_two _) hm).mono ?_);rintro e w1 ⟨A1,n1,c1,rfl,p1,p2,p3,hh⟩
     rw [HJ.out] at p3;replace XB:=XB.below hh;replace Z:=Z.below hh;replace hb:=bend hb hh;obtain ⟨r0,r1⟩:=Z.all;have r2:=Z.f0;have r3:=Z.f1))
 go_wp2
 have hf0:=(Z.set2 (.bool t) (.slice A1 n1 c1)).c0
 have hf1:=(Z.set2 (.bool t) (.slice A1 n1 c1)).c1
 refine bodyPost_ret (v:=.agg #[.bool t,.slice A1 n1 c1]) (by simp [results,Tryz.results87,go_sem,hf0,hf1]) rfl ?_
 refine ⟨A1,n1,c1,rfl,?_,p1,(hb.setCell (by show w.heap.size≤_;simp) _).setCell (by show w.heap.size≤_;simp) _⟩
 exact p3.rd.only (Z.offx p3.rd) (((Only.refl (w.heap.size+1) w1).setCell 0 _).setCell 1 _)
theorem rout_vc {A:Option Addr} {n c V k:Nat} (Y:RN w A n c V k) (hk:k≤200000) :
 Calls Tryz.prog 86 #[.slice A n c] w fun e w'=>∃ A n c,e=.returned (.slice A n c)∧Rd .u64 w' A n (limbs B64 V)∧n≤c∧Below w.heap.size w w':=by
 refine (rout_any (limbs B32 V) A n c w Y.1 (lim_limbs B32_two _) (Nat.le_trans Y.2.2 (by omega))).mono ?_
 rintro e w' ⟨A1,n1,c1,rfl,p1,p2,p3,p4⟩
 rw [join32_limbs] at p3
 exact ⟨A1,n1,c1,rfl,p3.rd,p1,p4⟩
theorem mkbx27_9 {w W:World} {x0 x1 x2 x3 x4 x5:Value} (h:((w.alloc (Obj.cells #[x0,x1,x2] 49)).alloc (Obj.cells #[x3,x4,x5] 26))=W):Below w.heap.size w W∧B3R W (w.heap.size) x0 x1 x2∧B3 W (w.heap.size+1) x3 x4 x5∧W.heap.size=w.heap.size+2:=by subst h;exact ⟨by exact (((Below.refl _ _).alloc (Nat.le_refl _) _).alloc (by simp) _),by exact (B3R.new' _ _ _ _ _ rfl).alloc _,by exact B3.new' _ _ _ _ _ (by simp),by simp⟩
theorem rout3g {s:Bool} {A A':Option Addr} {n c n' c' k:Nat} {v:Rat} (X:RQ w s A n c A' n' c' v k) (hk:k≤100000) (K:Nat) (h1:v.num.natAbs < B64 ^ K) (h2:v.den < B64 ^ K) :
 Calls Tryz.prog 48 #[.agg #[.bool s,.slice A n c,.slice A' n' c']] w (GivesQ w v K):=by
 have hs:s=decide (v.num < 0):=X.pg.1
 have HS:=Lib.hid hs
 have HK:Hid ((limbs B64 v.num.natAbs).length≤K∧(limbs B64 v.den).length≤K):=⟨length_limbs_le B64_two h1,length_limbs_le B64_two h2⟩
 clear h1 h2;clear hs
 go_enter Tryz.func48,Tryz.ntmps48
 go_wp2_with fail
 generalize hW:World.alloc _ _=W
 obtain ⟨hb,XA,Z,hzW⟩:=mkbx27_9 hW;clear hW;replace X:=X.below hb;obtain ⟨xa0,xa1,xa2⟩:=XA.all
 go_upto_region 2 with (first
  | (go_at_call 86;(with_reducible refine (rout_vc X.qn (by omega)).mono ?_);rintro e w_q ⟨A_q,n_q,c_q,rfl,q,qc,hh⟩
     (try replace X:=X.below hh);(try replace p:=p.below hh);(try replace XA:=XA.below hh);(try replace Z:=Z.below hh);replace hb:=bend hb hh;obtain ⟨xa0,xa1,xa2⟩:=XA.all))
 have hq0:((n_q:Int) == 0)=false:=by
  have h1:=q.1;rw [limbs_pos B64_two v.den_nz] at h1
  simp at h1 ⊢
  omega
 have zf0:=Z.f0;have zf1:=Z.f1;have zf2:=Z.f2;obtain ⟨z0,z1,z2⟩:=Z.all
 go_wp2_with (first
  | (go_at_call 87;(with_reducible refine (out2c X.pg (by omega)).mono ?_);rintro e w_p ⟨A_p,n_p,c_p,rfl,p,pc,hh⟩
     (try replace X:=X.below hh);(try replace q:=q.below hh);(try replace XA:=XA.below hh);(try replace Z:=Z.below hh);replace hb:=bend hb hh;obtain ⟨xa0,xa1,xa2⟩:=XA.all;have zf0:=Z.f0;have zf1:=Z.f1;have zf2:=Z.f2;obtain ⟨z0,z1,z2⟩:=Z.all))
 have Z2:=Z.set3 (.bool s) (.slice A_p n_p c_p) (.slice A_q n_q c_q)
 obtain ⟨g0,g1,g2⟩:=Z2.all
 refine bodyPost_ret (v:=.agg #[.bool s,.slice A_p n_p c_p,.slice A_q n_q c_q]) (by simp [results,Tryz.results48,go_sem,g0,g1,g2]) rfl ?_
 have ho:=(((Only.refl (w.heap.size+1) w_p).setCell 0 (Value.bool s)).setCell 1 (Value.slice A_p n_p c_p)).setCell 2 (Value.slice A_q n_q c_q)
 exact ⟨s,A_p,n_p,c_p,A_q,n_q,c_q,rfl,⟨⟨HS.out,p.only (Z.offx p) ho,pc,by rw [← p.1];exact HK.out.1⟩,q.only (Z.offx q) ho,qc,by rw [← q.1];exact HK.out.2⟩,below_set3 hb (by omega) _ _ _⟩
end
section
open Go Go.RowKit
theorem ZG.nil (k:Nat):ZG w false none 0 0 0 k:=⟨rfl,by rw [show ((0:Int).natAbs)=0 from rfl,limbs_zero];exact Rd.nil,Nat.le_refl _,Nat.zero_le _⟩
theorem RG.nil (k:Nat):RG w false none 0 0 0 k:=⟨rfl,RN.zero w k⟩
theorem rof2_any (v:Int) (h1:-9223372036854775808≤v) (h2:v < 9223372036854775808) (w:World):Calls Tryz.prog 77 #[.int .i64 v] w (GivesRZ w v 2):=by
 by_cases h:v < 0
 · obtain ⟨V,rfl⟩:∃ V:Nat,v=-(V:Int):=⟨v.natAbs,by omega⟩
   exact rof2_neg V (by omega) (by omega) w
 · obtain ⟨V,rfl⟩:∃ V:Nat,v=(V:Int):=⟨v.natAbs,by omega⟩
   exact rof2_pos V (by omega) w
end
section
open Go Go.RowKit
theorem RG.of_f {A:Option Addr} {n c V k:Nat} (h:RN w A n c V k):RG w false A n c (iv false V) k:=RG.of_made (neg:=false) h rfl
theorem RG.of_t {A:Option Addr} {n c V k:Nat} (h:RN w A n c V k):RG w (decide (0 < n)) A n c (iv true V) k:=RG.of_made (neg:=true) h rfl
theorem int_parts (p:Int):(Rat.divInt p 1).num=p∧(Rat.divInt p 1).den=1:=by rw [int1];exact ⟨rfl,rfl⟩
theorem rof3 (p q:Int) (hp1:-9223372036854775808≤p) (hp2:p < 9223372036854775808) (hq1:-9223372036854775808≤q) (hq2:q < 9223372036854775808) (h0:((q:Int) == 0)=false) (w:World) :
 Calls Tryz.prog 42 #[.int .i64 p,.int .i64 q] w (GivesRQ w (Rat.divInt p q) 2):=by
 have hq0:q ≠ 0:=by simpa using h0
 have HQ0:Hid ((q:Int).natAbs ≠ 0):=by show (q:Int).natAbs ≠ 0;omega
 have H1:=Lib.hid hp1;have H2:=Lib.hid hp2;have H3:=Lib.hid hq1;have H4:=Lib.hid hq2;clear hq0;clear hp1 hp2 hq1 hq2
 go_enter Tryz.func42,Tryz.ntmps42
 go_upto_region 1 with (fail)
 generalize hW:World.alloc _ _=W
 obtain ⟨hb,Z,hzW⟩:=mkbx23_9 hW;clear hW
 go_upto_region 4 with (first
  | (go_at_call 77;(with_reducible refine (rof2_any p H1.out H2.out _).mono ?_);rintro e w_x ⟨s_x,A_x,n_x,c_x,rfl,x,hh⟩
     (try replace y:=y.below hh);(try replace r:=r.below hh);(try replace XP:=XP.below hh);(try replace XQ:=XQ.below hh);(try replace Z:=Z.below hh);replace hb:=bend hb hh)
  | (go_at_call 77;(with_reducible refine (rof2_any q H3.out H4.out _).mono ?_);rintro e w_y ⟨s_y,A_y,n_y,c_y,rfl,y,hh⟩
     (try replace x:=x.below hh);(try replace r:=r.below hh);(try replace XP:=XP.below hh);(try replace XQ:=XQ.below hh);(try replace Z:=Z.below hh);replace hb:=bend hb hh))
 generalize hW:World.alloc _ _=W2
 obtain ⟨hh,XP,XQ,hzW2⟩:=mkbx5_7 hW;clear hW;(try replace x:=x.below hh);(try replace y:=y.below hh);(try replace Z:=Z.below hh);replace hb:=bend hb hh
 have hsx:s_x=decide (p < 0):=x.1
 have hsy:s_y=decide (q < 0):=y.1
 have HE:Hid (mkRat (iv (s_x != s_y) p.natAbs) (q:Int).natAbs=Rat.divInt p q):=by
  show _=_
  rw [← div_mk,hsx,hsy,iv_canon]
  first | rfl | rw [iv_canon]
 have hnx:=rn_pos x.rn;have HNX:=Lib.hid hnx;have xr:=x.rn;have yr:=y.rn;clear hsx hsy hnx x y
 cases s_x <;> cases s_y
 · have xp0:=XP.c0
   have xp1:=XP.c1;obtain ⟨xq0,xq1⟩:=XQ.all;have zf0:=Z.f0;have zf1:=Z.f1;have zf2:=Z.f2;obtain ⟨z0,z1,z2⟩:=Z.all
   have HE2:Hid (mkRat (iv false p.natAbs) (q:Int).natAbs=Rat.divInt p q):=HE
   go_wp2_with (first
    | (go_at_call 78;(with_reducible refine (made_rq (RG.of_f xr) yr (by decide) HQ0.out).mono ?_);rintro e w_r ⟨s_r,A_r,n_r,c_r,B_r,m_r,d_r,rfl,r,hh⟩
       rw [HE2.out] at r;(try replace Z:=Z.below hh);replace hb:=bend hb hh;have zf0:=Z.f0;have zf1:=Z.f1;have zf2:=Z.f2;obtain ⟨z0,z1,z2⟩:=Z.all))
   have Z2:=Z.set3 (.bool s_r) (.slice A_r n_r c_r) (.slice B_r m_r d_r)
   obtain ⟨g0,g1,g2⟩:=Z2.all
   refine bodyPost_ret (v:=.agg #[.bool s_r,.slice A_r n_r c_r,.slice B_r m_r d_r]) (by simp [results,Tryz.results42,go_sem,g0,g1,g2]) rfl ?_
   exact ⟨s_r,A_r,n_r,c_r,B_r,m_r,d_r,rfl,r.set3 Z _ _ _,below_set3 hb (by omega) _ _ _⟩
 · have xp0:=XP.c0
   have xp1:=XP.c1;obtain ⟨xq0,xq1⟩:=XQ.all;have zf0:=Z.f0;have zf1:=Z.f1;have zf2:=Z.f2;obtain ⟨z0,z1,z2⟩:=Z.all
   have HE2:Hid (mkRat (iv true p.natAbs) (q:Int).natAbs=Rat.divInt p q):=HE
   go_wp2_with (first
    | (go_at_call 78;(with_reducible refine (made_rq (RG.of_t xr) yr (by decide) HQ0.out).mono ?_);rintro e w_r ⟨s_r,A_r,n_r,c_r,B_r,m_r,d_r,rfl,r,hh⟩
       rw [HE2.out] at r;(try replace Z:=Z.below hh);replace hb:=bend hb hh;have zf0:=Z.f0;have zf1:=Z.f1;have zf2:=Z.f2;obtain ⟨z0,z1,z2⟩:=Z.all))
   have Z2:=Z.set3 (.bool s_r) (.slice A_r n_r c_r) (.slice B_r m_r d_r)
   obtain ⟨g0,g1,g2⟩:=Z2.all
   refine bodyPost_ret (v:=.agg #[.bool s_r,.slice A_r n_r c_r,.slice B_r m_r d_r]) (by simp [results,Tryz.results42,go_sem,g0,g1,g2]) rfl ?_
   exact ⟨s_r,A_r,n_r,c_r,B_r,m_r,d_r,rfl,r.set3 Z _ _ _,below_set3 hb (by omega) _ _ _⟩
 · have xp0:=XP.c0
   have xp1:=XP.c1;obtain ⟨xq0,xq1⟩:=XQ.all;have zf0:=Z.f0;have zf1:=Z.f1;have zf2:=Z.f2;obtain ⟨z0,z1,z2⟩:=Z.all
   have HE2:Hid (mkRat (iv true p.natAbs) (q:Int).natAbs=Rat.divInt p q):=HE
   go_wp2_with (first
    | (go_at_call 78;(with_reducible refine (made_rq (RG.of_t xr) yr (by decide) HQ0.out).mono ?_);rintro e w_r ⟨s_r,A_r,n_r,c_r,B_r,m_r,d_r,rfl,r,hh⟩
       rw [HE2.out] at r;(try replace Z:=Z.below hh);replace hb:=bend hb hh;have zf0:=Z.f0;have zf1:=Z.f1;have zf2:=Z.f2;obtain ⟨z0,z1,z2⟩:=Z.all))
   have Z2:=Z.set3 (.bool s_r) (.slice A_r n_r c_r) (.slice B_r m_r d_r)
   obtain ⟨g0,g1,g2⟩:=Z2.all
   refine bodyPost_ret (v:=.agg #[.bool s_r,.slice A_r n_r c_r,.slice B_r m_r d_r]) (by simp [results,Tryz.results42,go_sem,g0,g1,g2]) rfl ?_
   exact ⟨s_r,A_r,n_r,c_r,B_r,m_r,d_r,rfl,r.set3 Z _ _ _,below_set3 hb (by omega) _ _ _⟩
 · have xp0:=XP.c0
   have xp1:=XP.c1;obtain ⟨xq0,xq1⟩:=XQ.all;have zf0:=Z.f0;have zf1:=Z.f1;have zf2:=Z.f2;obtain ⟨z0,z1,z2⟩:=Z.all
   have HE2:Hid (mkRat (iv false p.natAbs) (q:Int).natAbs=Rat.divInt p q):=HE
   go_wp2_with (first
    | (go_at_call 78;(with_reducible refine (made_rq (RG.of_f xr) yr (by decide) HQ0.out).mono ?_);rintro e w_r ⟨s_r,A_r,n_r,c_r,B_r,m_r,d_r,rfl,r,hh⟩
       rw [HE2.out] at r;(try replace Z:=Z.below hh);replace hb:=bend hb hh;have zf0:=Z.f0;have zf1:=Z.f1;have zf2:=Z.f2;obtain ⟨z0,z1,z2⟩:=Z.all))
   have Z2:=Z.set3 (.bool s_r) (.slice A_r n_r c_r) (.slice B_r m_r d_r)
   obtain ⟨g0,g1,g2⟩:=Z2.all
   refine bodyPost_ret (v:=.agg #[.bool s_r,.slice A_r n_r c_r,.slice B_r m_r d_r]) (by simp [results,Tryz.results42,go_sem,g0,g1,g2]) rfl ?_
   exact ⟨s_r,A_r,n_r,c_r,B_r,m_r,d_r,rfl,r.set3 Z _ _ _,below_set3 hb (by omega) _ _ _⟩
end
section
open Go Go.RowKit
theorem small_m (M:Nat) {s:Bool} {A A':Option Addr} {n c n' c':Nat} (w:World) (L:Bool) (hL:decide (n≤M∧n'≤M)=L) :
 Calls Tryz.prog 49 #[.agg #[.bool s,.slice A n c,.slice A' n' c'],.int .i64 (M:Int)] w fun e w'=>e=.returned (.bool L)∧Below w.heap.size w w':=by
 have HL:=Lib.hid hL;clear hL
 go_enter Tryz.func49,Tryz.ntmps49
 go_wp2_with fail
 generalize hW:World.alloc _ _=W
 obtain ⟨hb,XA,hzW⟩:=mkbx11_7 hW;clear hW;obtain ⟨xa0,xa1,xa2⟩:=XA.all
 go_wp2_with fail
 · have h:n≤M:=by assumption
   go_ret
   refine ⟨?_,by first | assumption | exact (Below.refl _ _).alloc (Nat.le_refl _) _⟩
   show Ending.returned (.bool (decide (n'≤M)))=_
   rw [← HL.out]
   by_cases h2:n'≤M
   · rw [decide_eq_true (show n'≤M by omega),decide_eq_true (show n≤M∧n'≤M by omega)]
   · rw [decide_eq_false (show ¬ n'≤M by omega),decide_eq_false (show ¬ (n≤M∧n'≤M) by omega)]
 · have h:M < n:=by omega
   go_ret
   refine ⟨?_,by first | assumption | exact (Below.refl _ _).alloc (Nat.le_refl _) _⟩
   show Ending.returned (.bool false)=_
   rw [← HL.out,decide_eq_false (show ¬ (n≤M∧n'≤M) by omega)]
end
end Go.Proofs.YtfpaeophfcoohaaGreat
