/- A drawn region that makes and fills boxes, however many: by facts on the values of its slots, whatever the order. -/
import Derived.Test.YtmcijgnbdnpanaaGreatFlow
namespace Go.Proofs.YtmcijgnbdnpanaaGreat
open Go Go.RowKit

/-- A box of the region's: the operation that makes it, the one that fills it, its slot, its type, what it holds at first, what is known of it when filled. -/
structure BoxOp where
  ia : Nat
  is : Nat
  tA : Nat
  T : TypeId
  zs : Array Value
  Fst : Array Value → World → Prop
/-- What holds while the region runs. -/
structure JFlows (ops : Array Oper) (w0 : World) (L : List BoxOp) (F : Nat → Value → World → Prop) (D : Nat → Bool) (v : Nat → Value) (w' : World) : Prop where
  below : Below w0.heap.size w0 w'
  vals : ∀ (i : Nat) (o : Oper) (t : Nat), ops[i]? = some o → o.dst = some t → (∀ p ∈ L, t ≠ p.tA) → D i = true → F t (v t) w'
  box : ∀ p ∈ L, D p.ia = true → ∃ g cs, v p.tA = .pointer (some ⟨g, 0, none⟩) ∧ w0.heap.size ≤ g ∧ BoxAt p.T w' g cs ∧ (D p.is = true → p.Fst cs w') ∧ (D p.is = false → cs = p.zs)
  after : ∀ p ∈ L, D p.is = true → D p.ia = true
  apart : ∀ p ∈ L, ∀ q ∈ L, p.tA ≠ q.tA → D p.ia = true → D q.ia = true → v p.tA ≠ v q.tA
section
variable {P : Program} {ops : Array Oper} {Q : Exit → Act → World → Prop}
/-- The operations of a box, in the region. -/
structure BoxIn (P : Program) (ops : Array Oper) (p : BoxOp) : Prop where
  alloc : ∃ oa, ops[p.ia]? = some oa ∧ oa.dst = some p.tA ∧ oa.guard = none ∧ ∀ (e : Operand → Value) (w' : World), (execOp e oa).run P w' = .ok (.value (.pointer (some ⟨w'.heap.size, 0, none⟩))) (w'.alloc (.cells p.zs p.T))
  fill : ∃ os, ops[p.is]? = some os ∧ os.dst = none ∧ os.guard = none ∧ ∃ e ∈ os.after, Region.binds .any e = true ∧ e.on = p.ia
  free : ∀ (i : Nat) (k : IntKind) (x : Int), p.zs[i]? ≠ some (Value.int k x)
  stays : ∀ cs w w', p.Fst cs w → Below w.heap.size w w' → p.Fst cs w'
  stays2 : ∀ (T : TypeId) cs w w' g c0, p.Fst cs w → BoxAt T w g c0 → Only g w w' → p.Fst cs w'
theorem wp_region_flows {id : Nat} {a : Act} {w0 : World} (l : List Nat) (L : List BoxOp) (F : Nat → Value → World → Prop)
    (hm : P.follows .mixedOrders = true) (hb : backB ops = true) (hl : ops.toList.filterMap (·.dst) = l) (hn : l.Nodup)
    (hL : ∀ p ∈ L, BoxIn P ops p) (hT : ∀ p ∈ L, ∀ q ∈ L, p.tA = q.tA → p = q) (hS : ∀ p ∈ L, ∀ q ∈ L, p.is = q.is → p = q)
    (hone : ∀ (i : Nat) (o : Oper), ops[i]? = some o → o.dst = none → ∃ p ∈ L, p.is = i) (hst : ∀ t, Stays (F t))
    (hval : ∀ (i : Nat) (o : Oper) (t : Nat) (v : Nat → Value) (w' : World), ops[i]? = some o → (∀ p ∈ L, t ≠ p.tA) → o.dst = some t → Below w0.heap.size w0 w' →
      (∀ e ∈ o.after, Region.binds .any e = true → ∀ (oe : Oper) (te : Nat), ops[e.on]? = some oe → oe.dst = some te → (∀ p ∈ L, te ≠ p.tA) → F te (v te) w') →
      wpOp P ops Q i (fun a'' w'' => ∃ x, a'' = (putAll a l v).put (some t) x ∧ Below w'.heap.size w' w'' ∧ F t x w'') (putAll a l v) w')
    (hstore : ∀ p ∈ L, ∀ (os : Oper) (v : Nat → Value) (w' : World) (g : Nat), ops[p.is]? = some os → Below w0.heap.size w0 w' → v p.tA = .pointer (some ⟨g, 0, none⟩) → BoxAt p.T w' g p.zs →
      (∀ e ∈ os.after, Region.binds .any e = true → ∀ (oe : Oper) (te : Nat), ops[e.on]? = some oe → oe.dst = some te → (∀ p ∈ L, te ≠ p.tA) → F te (v te) w') →
      os.wp P (putAll a l v) w' (fun a'' w'' => a'' = putAll a l v ∧ Only g w' w'' ∧ ∃ cs', BoxAt p.T w'' g cs' ∧ p.Fst cs' w'') Q)
    (hend : ∀ (v : Nat → Value) (w' : World), Below w0.heap.size w0 w' → (∀ (i : Nat) (o : Oper) (t : Nat), ops[i]? = some o → o.dst = some t → (∀ p ∈ L, t ≠ p.tA) → F t (v t) w') →
      (∀ p ∈ L, ∃ g cs, v p.tA = .pointer (some ⟨g, 0, none⟩) ∧ w0.heap.size ≤ g ∧ BoxAt p.T w' g cs ∧ p.Fst cs w') → (∀ p ∈ L, ∀ q ∈ L, p.tA ≠ q.tA → v p.tA ≠ v q.tA) → Q .normal (putAll a l v) w') :
    (Code.region id ops true).wp P Q a w0 := by
  have lt_of : ∀ {i : Nat} {o : Oper}, ops[i]? = some o → i < ops.size := fun {i o} h => by
    rcases Nat.lt_or_ge i ops.size with k | k
    · exact k
    · rw [Array.getElem?_eq_none k] at h; cases h
  have hmem : ∀ {i : Nat} {o : Oper} {t : Nat}, ops[i]? = some o → o.dst = some t → t ∈ l := fun {i o t} h d => by
    rw [← hl]; exact List.mem_filterMap.2 ⟨o, List.mem_of_getElem? (by simpa using h), d⟩
  have hinj : ∀ {i j : Nat} {oi oj : Oper} {t : Nat}, ops[i]? = some oi → ops[j]? = some oj → oi.dst = some t → oj.dst = some t → i = j := fun {i j oi oj t} h1 h2 d1 d2 =>
    once_of (l := ops.toList) (by rw [hl]; exact hn) (by simpa using h1) (by simpa using h2) d1 d2
  -- a filling operation is no making one, and none that tells a value
  have his : ∀ p ∈ L, ∀ (i : Nat) (o : Oper) (t : Nat), ops[i]? = some o → o.dst = some t → p.is ≠ i := by
    intro p hp i o t ho ht q
    obtain ⟨os, h1, h2, _⟩ := (hL p hp).fill
    subst q
    rw [h1] at ho
    cases ho
    rw [h2] at ht
    cases ht
  refine wp_region_inv l (JFlows ops w0 L F) hm hb ?_ ?_ ?_ ?_
  · refine ⟨(Below.refl _ _).drew, ?_, ?_, ?_, ?_⟩
    · intro i o t _ _ _ h; exact absurd (show false = true from h) (by decide)
    · intro p _ h; exact absurd (show false = true from h) (by decide)
    · intro p _ h; exact absurd (show false = true from h) (by decide)
    · intro p _ q _ _ h; exact absurd (show false = true from h) (by decide)
  · intro D D' v w hD h
    have ea : ∀ p ∈ L, D p.ia = D' p.ia := fun p hp => by obtain ⟨oa, h1, _⟩ := (hL p hp).alloc; exact hD _ (lt_of h1)
    have es : ∀ p ∈ L, D p.is = D' p.is := fun p hp => by obtain ⟨os, h1, _⟩ := (hL p hp).fill; exact hD _ (lt_of h1)
    refine ⟨h.below, fun i o t hi ht hne hd => h.vals i o t hi ht hne (by rw [hD i (lt_of hi)]; exact hd), ?_, ?_, ?_⟩
    · intro p hp; rw [← ea p hp, ← es p hp]; exact h.box p hp
    · intro p hp; rw [← ea p hp, ← es p hp]; exact h.after p hp
    · intro p hp q hq; rw [← ea p hp, ← ea q hq]; exact h.apart p hp q hq
  · intro i o D v w' ho hDi hall J
    cases hd : o.dst with
    | none =>
      obtain ⟨p, hp, rfl⟩ := hone i o ho hd
      obtain ⟨os, h1, h2, hgs, e, he, hbd, hon⟩ := (hL p hp).fill
      rw [h1] at ho
      cases ho
      have hDa : D p.ia = true := by rw [← hon]; exact hall e he hbd
      obtain ⟨g, cs, p1, p2, p3, _, pz⟩ := J.box p hp hDa
      obtain rfl := pz hDi
      refine wpOp_plain' h1 hgs ?_
      refine Oper.wp_mono ?_ (hstore p hp _ v w' g h1 J.below p1 p3 (fun e he hb' oe te h1 h2 h3 => J.vals e.on oe te h1 h2 h3 (hall e he hb')))
      rintro a'' w'' ⟨rfl, ho2, cs', hB, hF⟩
      have nia : ∀ q ∈ L, q.ia ≠ p.is := fun q hq k => by
        obtain ⟨oa, k1, k2, _⟩ := (hL q hq).alloc
        exact his p hp q.ia oa q.tA k1 k2 k.symm
      refine ⟨v, rfl, Below.only J.below p2 J.below.size ho2, ?_, ?_, ?_, ?_⟩
      · intro j oj t hj ht hne hd2
        have hji : j ≠ p.is := fun q => his p hp j oj t hj ht q.symm
        rw [upd_ne _ _ hji] at hd2
        exact (hst t).2 _ _ _ _ _ _ (J.vals j oj t hj ht hne hd2) p3 ho2
      · intro q hq hDq
        rw [upd_ne _ _ (nia q hq)] at hDq
        by_cases hpq : q.tA = p.tA
        · obtain rfl := hT q hq p hp hpq
          exact ⟨g, cs', p1, p2, hB, fun _ => hF, fun k => by rw [upd_same] at k; cases k⟩
        · obtain ⟨g2, cs2, r1, r2, r3, r4, r5⟩ := J.box q hq hDq
          have hgg : g2 ≠ g := fun k => J.apart q hq p hp hpq hDq hDa (by rw [r1, p1, k])
          have hss : q.is ≠ p.is := fun k => hpq (by rw [hS q hq p hp k])
          refine ⟨g2, cs2, r1, r2, ⟨(ho2.block g2 r3.lt hgg).trans r3.at_, r3.free⟩, fun k => ?_, fun k => ?_⟩
          · rw [upd_ne _ _ hss] at k
            exact (hL q hq).stays2 _ _ _ _ _ _ (r4 k) p3 ho2
          · rw [upd_ne _ _ hss] at k
            exact r5 k
      · intro q hq k
        rw [upd_ne _ _ (nia q hq)]
        by_cases hss : q.is = p.is
        · obtain rfl := hS q hq p hp hss
          exact hDa
        · rw [upd_ne _ _ hss] at k
          exact J.after q hq k
      · intro q hq r hr hne k1 k2
        rw [upd_ne _ _ (nia q hq)] at k1
        rw [upd_ne _ _ (nia r hr)] at k2
        exact J.apart q hq r hr hne k1 k2
    | some t =>
      have nis : ∀ q ∈ L, q.is ≠ i := fun q hq => his q hq i o t ho hd
      by_cases hA : ∃ p ∈ L, t = p.tA
      · obtain ⟨p, hp, rfl⟩ := hA
        obtain ⟨oa, h1, h2, hga, halloc⟩ := (hL p hp).alloc
        have hii : i = p.ia := hinj ho h1 hd h2
        subst hii
        rw [h1] at ho
        cases ho
        refine wpOp_plain' h1 hga ?_
        unfold Oper.wp
        rw [halloc, Oper.upon_value, h2]
        have hbl := (Below.refl w'.heap.size w').alloc (Nat.le_refl _) (.cells p.zs p.T)
        have hnew : ∀ q ∈ L, q.tA ≠ p.tA → q.ia ≠ p.ia := fun q hq k r => by
          obtain ⟨ob, k1, k2, _⟩ := (hL q hq).alloc
          rw [r, h1] at k1
          cases k1
          rw [h2] at k2
          exact k (Option.some.inj k2).symm
        refine ⟨_, putAll_put _ _ _ _ _ hn (hmem h1 h2), J.below.trans (hbl.mono J.below.size), ?_, ?_, ?_, ?_⟩
        · intro j oj t hj ht hne hd2
          have htp := hne p hp
          have hji : j ≠ p.ia := fun q => htp (by subst q; rw [h1] at hj; cases hj; rw [h2] at ht; cases ht; rfl)
          rw [upd_ne _ _ hji] at hd2
          rw [upd_ne _ _ htp]
          exact (hst t).1 _ _ _ (J.vals j oj t hj ht hne hd2) hbl
        · intro q hq hDq
          by_cases hqp : q.tA = p.tA
          · obtain rfl := hT q hq p hp hqp
            refine ⟨w'.heap.size, q.zs, upd_same _ _ _, J.below.size, ⟨heap_alloc_new _ _, (hL q hq).free⟩, fun h => ?_, fun _ => rfl⟩
            rw [upd_ne _ _ (nis q hq)] at h
            have := J.after q hq h
            rw [hDi] at this
            cases this
          · rw [upd_ne _ _ (hnew q hq hqp)] at hDq
            obtain ⟨g, cs, r1, r2, r3, r4, r5⟩ := J.box q hq hDq
            refine ⟨g, cs, by rw [upd_ne _ _ hqp]; exact r1, r2, r3.below hbl, fun h => ?_, fun h => ?_⟩
            · rw [upd_ne _ _ (nis q hq)] at h
              exact (hL q hq).stays _ _ _ (r4 h) hbl
            · rw [upd_ne _ _ (nis q hq)] at h
              exact r5 h
        · intro q hq h
          rw [upd_ne _ _ (nis q hq)] at h
          by_cases hqp : q.tA = p.tA
          · obtain rfl := hT q hq p hp hqp
            rw [upd_same]
          · rw [upd_ne _ _ (hnew q hq hqp)]
            exact J.after q hq h
        · intro q hq r hr hne k1 k2
          by_cases hqp : q.tA = p.tA
          · obtain rfl := hT q hq p hp hqp
            have hrp : r.tA ≠ q.tA := Ne.symm hne
            rw [upd_ne _ _ (hnew r hr hrp)] at k2
            obtain ⟨g, cs, r1, _, r3, _⟩ := J.box r hr k2
            rw [upd_same, upd_ne _ _ hrp, r1]
            intro k
            simp only [Value.pointer.injEq, Option.some.injEq, Addr.mk.injEq] at k
            have := r3.lt
            omega
          · rw [upd_ne _ _ (hnew q hq hqp)] at k1
            by_cases hrp : r.tA = p.tA
            · obtain rfl := hT r hr p hp hrp
              obtain ⟨g, cs, r1, _, r3, _⟩ := J.box q hq k1
              rw [upd_same, upd_ne _ _ hqp, r1]
              intro k
              simp only [Value.pointer.injEq, Option.some.injEq, Addr.mk.injEq] at k
              have := r3.lt
              omega
            · rw [upd_ne _ _ (hnew r hr hrp)] at k2
              rw [upd_ne _ _ hqp, upd_ne _ _ hrp]
              exact J.apart q hq r hr hne k1 k2
      · have htA : ∀ p ∈ L, t ≠ p.tA := fun p hp k => hA ⟨p, hp, k⟩
        have nia : ∀ q ∈ L, q.ia ≠ i := fun q hq k => by
          obtain ⟨oa, k1, k2, _⟩ := (hL q hq).alloc
          rw [k, ho] at k1
          cases k1
          rw [hd] at k2
          cases k2
          exact htA q hq rfl
        refine wpOp_mono ?_ (hval i o t v w' ho htA hd J.below (fun e he hb' oe te h1 h2 h3 => J.vals e.on oe te h1 h2 h3 (hall e he hb')))
        rintro a'' w'' ⟨x, rfl, hbl, hF⟩
        refine ⟨_, putAll_put _ _ _ _ _ hn (hmem ho hd), J.below.trans (hbl.mono J.below.size), ?_, ?_, ?_, ?_⟩
        · intro j oj t' hj ht hne hd2
          by_cases hji : j = i
          · subst hji
            rw [ho] at hj
            cases hj
            rw [hd] at ht
            cases ht
            rw [upd_same]
            exact hF
          · rw [upd_ne _ _ hji] at hd2
            have htt : t' ≠ t := fun q => hji (by subst q; exact hinj hj ho ht hd)
            rw [upd_ne _ _ htt]
            exact (hst t').1 _ _ _ (J.vals j oj t' hj ht hne hd2) hbl
        · intro q hq hDq
          rw [upd_ne _ _ (nia q hq)] at hDq
          obtain ⟨g, cs, r1, r2, r3, r4, r5⟩ := J.box q hq hDq
          refine ⟨g, cs, by rw [upd_ne _ _ (Ne.symm (htA q hq))]; exact r1, r2, r3.below hbl, fun h => ?_, fun h => ?_⟩
          · rw [upd_ne _ _ (nis q hq)] at h
            exact (hL q hq).stays _ _ _ (r4 h) hbl
          · rw [upd_ne _ _ (nis q hq)] at h
            exact r5 h
        · intro q hq h
          rw [upd_ne _ _ (nis q hq)] at h
          rw [upd_ne _ _ (nia q hq)]
          exact J.after q hq h
        · intro q hq r hr hne k1 k2
          rw [upd_ne _ _ (nia q hq)] at k1
          rw [upd_ne _ _ (nia r hr)] at k2
          rw [upd_ne _ _ (Ne.symm (htA q hq)), upd_ne _ _ (Ne.symm (htA r hr))]
          exact J.apart q hq r hr hne k1 k2
  · intro D v w' hall J
    refine hend v w' J.below (fun i o t hi ht hne => J.vals i o t hi ht hne (hall i (lt_of hi))) ?_ ?_
    · intro p hp
      obtain ⟨oa, h1, _⟩ := (hL p hp).alloc
      obtain ⟨os, h2, _⟩ := (hL p hp).fill
      obtain ⟨g, cs, r1, r2, r3, r4, _⟩ := J.box p hp (hall _ (lt_of h1))
      exact ⟨g, cs, r1, r2, r3, r4 (hall _ (lt_of h2))⟩
    · intro p hp q hq hne
      obtain ⟨oa, h1, _⟩ := (hL p hp).alloc
      obtain ⟨ob, h2, _⟩ := (hL q hq).alloc
      exact J.apart p hp q hq hne (hall _ (lt_of h1)) (hall _ (lt_of h2))
end
end Go.Proofs.YtmcijgnbdnpanaaGreat
