/- A drawn region that makes and fills one box: by facts on the values of its slots, whatever the order. -/
import Derived.Test.YtmcijgnbdnpanaaGreatInv
import Derived.Test.YtmcijgnbdnpanaaGreatRatW
import Derived.Test.YtmcijgnbdnpanaaGreatRatI
namespace Go.Proofs.YtmcijgnbdnpanaaGreat
open Go Go.RowKit

theorem wpOp_plain' {P : Program} {ops : Array Oper} {Q : Exit → Act → World → Prop} {i : Nat} {o : Oper} {K : Act → World → Prop} {a : Act} {w : World} (hi : ops[i]? = some o) (hg : o.guard = none) (h : o.wp P a w K Q) : wpOp P ops Q i K a w := by
  unfold wpOp
  rw [hi]
  simp only [Region.wanted, hg, if_true]
  exact .inl h
/-- Block g holds a struct without numbers. -/
structure BoxAt (T : TypeId) (w : World) (g : Nat) (cs : Array Value) : Prop where
  at_ : w.heap[g]? = some (.cells cs T (0, 0))
  free : ∀ (i : Nat) (k : IntKind) (x : Int), cs[i]? ≠ some (Value.int k x)
section
variable {T : TypeId} {w w' : World} {g : Nat} {cs : Array Value}
theorem BoxAt.lt (h : BoxAt T w g cs) : g < w.heap.size := by
  rcases Nat.lt_or_ge g w.heap.size with k | k
  · exact k
  · have := h.at_; simp [Array.getElem?_eq_none k] at this
theorem BoxAt.below (h : BoxAt T w g cs) (hb : Below w.heap.size w w') : BoxAt T w' g cs := ⟨(hb.block g h.lt).trans h.at_, h.free⟩
theorem BoxAt.offx {K : IntKind} {A : Option Addr} {n : Nat} {l : List Nat} (h : BoxAt T w g cs) (hr : Rd K w A n l) : Off A n g := by
  intro hn ad e hg
  obtain ⟨b, o, eA, hc⟩ := hr.at_ hn
  obtain ⟨y, _, hx⟩ := hc 0 hn
  rw [eA] at e
  cases e
  have hg2 : b = g := hg
  subst hg2
  rw [cell_of_row w b (o + 0) _ _ (0, 0) h.at_] at hx
  exact h.free _ _ _ hx
theorem NR.box {A : Option Addr} {n c V k : Nat} (h : NR w A n c V k) (B : BoxAt T w g cs) (ho : Only g w w') : NR w' A n c V k := by
  obtain ⟨l, h1, h2⟩ := h; exact ⟨l, h1.only (B.offx h1) ho, h2⟩
theorem NG.box {A : Option Addr} {n c V k : Nat} (h : NG w A n c V k) (B : BoxAt T w g cs) (ho : Only g w w') : NG w' A n c V k := ⟨h.1.only (B.offx h.1) ho, h.2⟩
theorem ZG.box {s : Bool} {A : Option Addr} {n c k : Nat} {v : Int} (h : ZG w s A n c v k) (B : BoxAt T w g cs) (ho : Only g w w') : ZG w' s A n c v k := ⟨h.1, h.2.1.only (B.offx h.2.1) ho, h.2.2⟩
theorem ZR.box {s : Bool} {A : Option Addr} {n c k : Nat} {v : Int} (h : ZR w s A n c v k) (B : BoxAt T w g cs) (ho : Only g w w') : ZR w' s A n c v k := by
  obtain ⟨l, h1, h2⟩ := h; exact ⟨l, h1.only (B.offx h1) ho, h2⟩
theorem QG.box {s : Bool} {A A' : Option Addr} {n c n' c' k : Nat} {v : Rat} (h : QG w s A n c A' n' c' v k) (B : BoxAt T w g cs) (ho : Only g w w') : QG w' s A n c A' n' c' v k := ⟨h.1.box B ho, h.2.box B ho⟩
theorem QR.box {s : Bool} {A A' : Option Addr} {n c n' c' k : Nat} {v : Rat} (h : QR w s A n c A' n' c' v k) (B : BoxAt T w g cs) (ho : Only g w w') : QR w' s A n c A' n' c' v k := by
  obtain ⟨p, q, h1, h2, h3⟩ := h; exact ⟨p, q, h1.box B ho, h2.box B ho, h3⟩
theorem B3.bat {x y z : Value} (h : B3 w g x y z) (hf : ∀ (i : Nat) (k : IntKind) (v : Int), (#[x, y, z] : Array Value)[i]? ≠ some (Value.int k v)) : BoxAt 26 w g #[x, y, z] := ⟨h, hf⟩
end
theorem free3 (s : Bool) (A B : Option Addr) (n c m d : Nat) : ∀ (i : Nat) (k : IntKind) (v : Int), (#[.bool s, .slice A n c, .slice B m d] : Array Value)[i]? ≠ some (.int k v) := by
  intro i k v h
  match i, h with
  | 0, h => cases h
  | 1, h => cases h
  | 2, h => cases h
  | i + 3, h => cases h
theorem free2 (s : Bool) (A : Option Addr) (n c : Nat) : ∀ (i : Nat) (k : IntKind) (v : Int), (#[.bool s, .slice A n c] : Array Value)[i]? ≠ some (.int k v) := by
  intro i k v h
  match i, h with
  | 0, h => cases h
  | 1, h => cases h
  | i + 2, h => cases h
/-- The value is a good fraction's, a good number's. -/
def VQ (v : Rat) (k : Nat) (x : Value) (w : World) : Prop := ∃ s A n c B m d, x = .agg #[.bool s, .slice A n c, .slice B m d] ∧ QG w s A n c B m d v k
def VZG (v : Int) (k : Nat) (x : Value) (w : World) : Prop := ∃ s A n c, x = .agg #[.bool s, .slice A n c] ∧ ZG w s A n c v k
/-- .. a good fraction's, whichever, and no error. -/
def VQE (S : Rat → Prop) (k : Nat) (x : Value) (w : World) : Prop := ∃ v, S v ∧ ∃ s A n c B m d, x = .tuple #[.agg #[.bool s, .slice A n c, .slice B m d], .int .i64 0] ∧ QG w s A n c B m d v k
/-- .. of a good fraction, whichever. -/
def VQS (S : Rat → Prop) (k : Nat) (x : Value) (w : World) : Prop := ∃ v, S v ∧ VQ v k x w
/-- What stays, whatever memory is made or boxes are filled. -/
def Stays (F : Value → World → Prop) : Prop := (∀ x w w', F x w → Below w.heap.size w w' → F x w') ∧ ∀ (T : TypeId) x w w' g cs, F x w → BoxAt T w g cs → Only g w w' → F x w'
theorem stays_eq (c : Value) : Stays (fun x _ => x = c) := ⟨fun _ _ _ h _ => h, fun _ _ _ _ _ _ h _ _ => h⟩
theorem stays_true : Stays (fun _ _ => True) := ⟨fun _ _ _ h _ => h, fun _ _ _ _ _ _ h _ _ => h⟩
theorem stays_q (v : Rat) (k : Nat) : Stays (VQ v k) :=
  ⟨fun _ _ _ ⟨s, A, n, c, B, m, d, h1, h2⟩ hb => ⟨s, A, n, c, B, m, d, h1, h2.below hb⟩, fun _ _ _ _ _ _ ⟨s, A, n, c, B, m, d, h1, h2⟩ hB ho => ⟨s, A, n, c, B, m, d, h1, h2.box hB ho⟩⟩
theorem stays_z (v : Int) (k : Nat) : Stays (VZG v k) :=
  ⟨fun _ _ _ ⟨s, A, n, c, h1, h2⟩ hb => ⟨s, A, n, c, h1, h2.below hb⟩, fun _ _ _ _ _ _ ⟨s, A, n, c, h1, h2⟩ hB ho => ⟨s, A, n, c, h1, h2.box hB ho⟩⟩
theorem stays_qe (S : Rat → Prop) (k : Nat) : Stays (VQE S k) :=
  ⟨fun _ _ _ ⟨v, hv, s, A, n, c, B, m, d, h1, h2⟩ hb => ⟨v, hv, s, A, n, c, B, m, d, h1, h2.below hb⟩, fun _ _ _ _ _ _ ⟨v, hv, s, A, n, c, B, m, d, h1, h2⟩ hB ho => ⟨v, hv, s, A, n, c, B, m, d, h1, h2.box hB ho⟩⟩
theorem stays_qs (S : Rat → Prop) (k : Nat) : Stays (VQS S k) :=
  ⟨fun _ _ _ ⟨v, hv, h⟩ hb => ⟨v, hv, (stays_q v k).1 _ _ _ h hb⟩, fun T _ _ _ _ _ ⟨v, hv, h⟩ hB ho => ⟨v, hv, (stays_q v k).2 T _ _ _ _ _ h hB ho⟩⟩

theorem store_q {ac : Act} {x z : Operand} {y g : Nat} {pos : String} {af : Array Edge} {w : World} {Q : Exit → Act → World → Prop} {V : Rat} {k : Nat} (p1 : ac.eval x = .pointer (some ⟨g, 0, none⟩)) (h : VQ V k (ac.eval z) w) (B : BoxAt 26 w g #[.bool false, .slice none 0 0, .slice none 0 0]) :
    ({ dst := none, op := Op.store 26 x z, type := y, pos := pos, after := af, guard := none } : Oper).wp Tryz.prog ac w (fun a'' w'' => a'' = ac ∧ Only g w w'' ∧ ∃ cs', BoxAt 26 w'' g cs' ∧ (fun cs w => ∃ s A n c B m d, cs = #[.bool s, .slice A n c, .slice B m d] ∧ QG w s A n c B m d V k) cs' w'') Q := by
  obtain ⟨s1, A1, n1, c1, B1, m1, d1, h1, h2⟩ := h
  have Z : B3 w g (Value.bool false) (Value.slice none 0 0) (Value.slice none 0 0) := B.at_
  unfold Oper.wp
  rw [run_storeQ p1 h1 Z.c0 Z.c1 Z.c2 Z.f0 Z.f1 Z.f2, Oper.upon_skip]
  refine ⟨put_none ac undef, ((((Only.refl g w).setCell 0 _).setCell 1 _).setCell 2 _), #[.bool s1, .slice A1 n1 c1, .slice B1 m1 d1], ⟨Z.set3 (Value.bool s1) (Value.slice A1 n1 c1) (Value.slice B1 m1 d1), free3 _ _ _ _ _ _ _⟩, s1, A1, n1, c1, B1, m1, d1, rfl, h2.box B ((((Only.refl g w).setCell 0 _).setCell 1 _).setCell 2 _)⟩
theorem store_qs {ac : Act} {x z : Operand} {y g : Nat} {pos : String} {af : Array Edge} {w : World} {Q : Exit → Act → World → Prop} {S : Rat → Prop} {k : Nat} (p1 : ac.eval x = .pointer (some ⟨g, 0, none⟩)) (h : VQS S k (ac.eval z) w) (B : BoxAt 26 w g #[.bool false, .slice none 0 0, .slice none 0 0]) :
    ({ dst := none, op := Op.store 26 x z, type := y, pos := pos, after := af, guard := none } : Oper).wp Tryz.prog ac w (fun a'' w'' => a'' = ac ∧ Only g w w'' ∧ ∃ cs', BoxAt 26 w'' g cs' ∧ (fun cs w => ∃ v, S v ∧ ∃ s A n c B m d, cs = #[.bool s, .slice A n c, .slice B m d] ∧ QG w s A n c B m d v k) cs' w'') Q := by
  obtain ⟨u, hu, s1, A1, n1, c1, B1, m1, d1, h1, h2⟩ := h
  have Z : B3 w g (Value.bool false) (Value.slice none 0 0) (Value.slice none 0 0) := B.at_
  unfold Oper.wp
  rw [run_storeQ p1 h1 Z.c0 Z.c1 Z.c2 Z.f0 Z.f1 Z.f2, Oper.upon_skip]
  refine ⟨put_none ac undef, ((((Only.refl g w).setCell 0 _).setCell 1 _).setCell 2 _), #[.bool s1, .slice A1 n1 c1, .slice B1 m1 d1], ⟨Z.set3 (Value.bool s1) (Value.slice A1 n1 c1) (Value.slice B1 m1 d1), free3 _ _ _ _ _ _ _⟩, u, hu, s1, A1, n1, c1, B1, m1, d1, rfl, h2.box B ((((Only.refl g w).setCell 0 _).setCell 1 _).setCell 2 _)⟩
theorem store_z {ac : Act} {x z : Operand} {y g : Nat} {pos : String} {af : Array Edge} {w : World} {Q : Exit → Act → World → Prop} {V : Int} {k : Nat} (p1 : ac.eval x = .pointer (some ⟨g, 0, none⟩)) (h : VZG V k (ac.eval z) w) (B : BoxAt 24 w g #[.bool false, .slice none 0 0]) :
    ({ dst := none, op := Op.store 24 x z, type := y, pos := pos, after := af, guard := none } : Oper).wp Tryz.prog ac w (fun a'' w'' => a'' = ac ∧ Only g w w'' ∧ ∃ cs', BoxAt 24 w'' g cs' ∧ (fun cs w => ∃ s A n c, cs = #[.bool s, .slice A n c] ∧ ZG w s A n c V k) cs' w'') Q := by
  obtain ⟨s1, A1, n1, c1, h1, h2⟩ := h
  have Z : Bx w g (Value.bool false) (Value.slice none 0 0) := B.at_
  unfold Oper.wp
  rw [run_storeI p1 h1 Z.c0 Z.c1 Z.f0 Z.f1, Oper.upon_skip]
  refine ⟨put_none ac undef, (((Only.refl g w).setCell 0 _).setCell 1 _), #[.bool s1, .slice A1 n1 c1], ⟨Z.set2 (Value.bool s1) (Value.slice A1 n1 c1), free2 _ _ _ _⟩, s1, A1, n1, c1, rfl, h2.box B (((Only.refl g w).setCell 0 _).setCell 1 _)⟩

section
variable {P : Program} {ops : Array Oper} {Q : Exit → Act → World → Prop}
/-- What holds while the region runs. -/
def JFlow (ops : Array Oper) (w0 : World) (T : TypeId) (zs : Array Value) (ia is tA : Nat) (F : Nat → Value → World → Prop) (Fst : Array Value → World → Prop) (D : Nat → Bool) (v : Nat → Value) (w' : World) : Prop :=
  Below w0.heap.size w0 w' ∧ (∀ (i : Nat) (o : Oper) (t : Nat), ops[i]? = some o → o.dst = some t → t ≠ tA → D i = true → F t (v t) w') ∧
  (D ia = true → ∃ g cs, v tA = .pointer (some ⟨g, 0, none⟩) ∧ w0.heap.size ≤ g ∧ BoxAt T w' g cs ∧ (D is = true → Fst cs w') ∧ (D is = false → cs = zs)) ∧ (D is = true → D ia = true)
theorem once_of {i j : Nat} {oi oj : Oper} {t : Nat} : ∀ {l : List Oper}, (l.filterMap (·.dst)).Nodup → l[i]? = some oi → l[j]? = some oj → oi.dst = some t → oj.dst = some t → i = j := by
  intro l
  induction l generalizing i j with
  | nil => intro _ h; simp at h
  | cons o l ih =>
    intro hn h1 h2 d1 d2
    have mem : ∀ {k : Nat} {p : Oper}, l[k]? = some p → p.dst = some t → t ∈ l.filterMap (·.dst) := fun h d => List.mem_filterMap.2 ⟨_, List.mem_of_getElem? h, d⟩
    have hn' : (l.filterMap (·.dst)).Nodup := by
      rw [List.filterMap_cons] at hn
      split at hn
      · exact hn
      · exact (List.nodup_cons.1 hn).2
    match i, j with
    | 0, 0 => rfl
    | 0, j + 1 =>
      exfalso
      simp at h1
      subst h1
      rw [List.filterMap_cons, d1] at hn
      exact (List.nodup_cons.1 hn).1 (mem (by simpa using h2) d2)
    | i + 1, 0 =>
      exfalso
      simp at h2
      subst h2
      rw [List.filterMap_cons, d2] at hn
      exact (List.nodup_cons.1 hn).1 (mem (by simpa using h1) d1)
    | i + 1, j + 1 => exact congrArg (· + 1) (ih hn' (by simpa using h1) (by simpa using h2) d1 d2)
theorem wp_region_flow {id : Nat} {a : Act} {w0 : World} (T : TypeId) (zs : Array Value) (l : List Nat) (ia is tA : Nat) (oa os : Oper) (F : Nat → Value → World → Prop) (Fst : Array Value → World → Prop)
    (hm : P.follows .mixedOrders = true) (hb : backB ops = true) (hl : ops.toList.filterMap (·.dst) = l) (hn : l.Nodup)
    (hoa : ops[ia]? = some oa) (hos : ops[is]? = some os) (hda : oa.dst = some tA) (hds : os.dst = none) (hone : ∀ (i : Nat) (o : Oper), ops[i]? = some o → o.dst = none → i = is)
    (hga : oa.guard = none) (hgs : os.guard = none) (hedge : ∃ e ∈ os.after, Region.binds .any e = true ∧ e.on = ia)
    (hst : ∀ t, Stays (F t)) (hzs : ∀ (i : Nat) (k : IntKind) (x : Int), zs[i]? ≠ some (Value.int k x))
    (halloc : ∀ (e : Operand → Value) (w' : World), (execOp e oa).run P w' = .ok (.value (.pointer (some ⟨w'.heap.size, 0, none⟩))) (w'.alloc (.cells zs T)))
    (hval : ∀ (i : Nat) (o : Oper) (t : Nat) (v : Nat → Value) (w' : World), ops[i]? = some o → i ≠ ia → o.dst = some t → Below w0.heap.size w0 w' →
      (∀ e ∈ o.after, Region.binds .any e = true → ∀ (oe : Oper) (te : Nat), ops[e.on]? = some oe → oe.dst = some te → te ≠ tA → F te (v te) w') →
      wpOp P ops Q i (fun a'' w'' => ∃ x, a'' = (putAll a l v).put (some t) x ∧ Below w'.heap.size w' w'' ∧ F t x w'') (putAll a l v) w')
    (hstore : ∀ (v : Nat → Value) (w' : World) (g : Nat), Below w0.heap.size w0 w' → v tA = .pointer (some ⟨g, 0, none⟩) → BoxAt T w' g zs →
      (∀ e ∈ os.after, Region.binds .any e = true → ∀ (oe : Oper) (te : Nat), ops[e.on]? = some oe → oe.dst = some te → te ≠ tA → F te (v te) w') →
      os.wp P (putAll a l v) w' (fun a'' w'' => a'' = putAll a l v ∧ Only g w' w'' ∧ ∃ cs', BoxAt T w'' g cs' ∧ Fst cs' w'') Q)
    (hfst : ∀ cs w w', Fst cs w → Below w.heap.size w w' → Fst cs w')
    (hend : ∀ (v : Nat → Value) (w' : World) (g : Nat) (cs : Array Value), Below w0.heap.size w0 w' → (∀ (i : Nat) (o : Oper) (t : Nat), ops[i]? = some o → o.dst = some t → t ≠ tA → F t (v t) w') → v tA = .pointer (some ⟨g, 0, none⟩) → w0.heap.size ≤ g → BoxAt T w' g cs → Fst cs w' → Q .normal (putAll a l v) w') :
    (Code.region id ops true).wp P Q a w0 := by
  have hmem : ∀ {i : Nat} {o : Oper} {t : Nat}, ops[i]? = some o → o.dst = some t → t ∈ l := fun {i o t} h d => by
    rw [← hl]; exact List.mem_filterMap.2 ⟨o, List.mem_of_getElem? (by simpa using h), d⟩
  have hinj : ∀ {i j : Nat} {oi oj : Oper} {t : Nat}, ops[i]? = some oi → ops[j]? = some oj → oi.dst = some t → oj.dst = some t → i = j := fun {i j oi oj t} h1 h2 d1 d2 =>
    once_of (l := ops.toList) (by rw [hl]; exact hn) (by simpa using h1) (by simpa using h2) d1 d2
  refine wp_region_inv l (JFlow ops w0 T zs ia is tA F Fst) hm hb ?_ ?_ ?_ ?_
  · refine ⟨(Below.refl _ _).drew, ?_, ?_, ?_⟩
    · intro i o t _ _ _ h; exact absurd (show false = true from h) (by decide)
    · intro h; exact absurd (show false = true from h) (by decide)
    · intro h; exact absurd (show false = true from h) (by decide)
  · intro D D' v w hD h
    obtain ⟨h0, h1, h2, h3⟩ := h
    have lt_of : ∀ {i : Nat} {o : Oper}, ops[i]? = some o → i < ops.size := fun {i o} h => by
      rcases Nat.lt_or_ge i ops.size with k | k
      · exact k
      · rw [Array.getElem?_eq_none k] at h; cases h
    have e1 := hD ia (lt_of hoa)
    have e2 := hD is (lt_of hos)
    refine ⟨h0, fun i o t hi ht hne hd => h1 i o t hi ht hne (by rw [hD i (lt_of hi)]; exact hd), ?_, ?_⟩
    · rw [← e1, ← e2]; exact h2
    · rw [← e1, ← e2]; exact h3
  · intro i o D v w' ho hDi hall hJ
    obtain ⟨J0, J1, J2, J3⟩ := hJ
    by_cases hia : i = ia
    · subst hia
      rw [hoa] at ho
      cases ho
      have nis : ¬ D is = true := fun h => by have := J3 h; rw [hDi] at this; cases this
      refine wpOp_plain' hoa hga ?_
      unfold Oper.wp
      rw [halloc, Oper.upon_value, hda]
      have hbl := (Below.refl w'.heap.size w').alloc (Nat.le_refl _) (.cells zs T)
      refine ⟨_, putAll_put _ _ _ _ _ hn (hmem hoa hda), J0.trans (hbl.mono J0.size), ?_, ?_, ?_⟩
      · intro j oj t hj ht hne hd
        have hji : j ≠ i := fun q => hne (by subst q; rw [hoa] at hj; cases hj; rw [hda] at ht; cases ht; rfl)
        rw [upd_ne _ _ hji] at hd
        rw [upd_ne _ _ hne]
        exact (hst t).1 _ _ _ (J1 j oj t hj ht hne hd) hbl
      · intro _
        refine ⟨w'.heap.size, zs, upd_same _ _ _, J0.size, ⟨heap_alloc_new _ _, hzs⟩, fun h => ?_, fun _ => rfl⟩
        have : is ≠ i := fun q => by subst q; rw [hos] at hoa; cases hoa; rw [hds] at hda; cases hda
        rw [upd_ne _ _ this] at h
        exact absurd h nis
      · intro h
        have : is ≠ i := fun q => by subst q; rw [hos] at hoa; cases hoa; rw [hds] at hda; cases hda
        rw [upd_ne _ _ this] at h
        exact absurd h nis
    · cases hd : o.dst with
      | none =>
        have his := hone i o ho hd
        subst his
        rw [hos] at ho
        cases ho
        obtain ⟨e, he, hbd, hon⟩ := hedge
        have hDa : D ia = true := by rw [← hon]; exact hall e he hbd
        obtain ⟨g, cs, p1, p2, p3, _, pz⟩ := J2 hDa
        obtain rfl := pz hDi
        refine wpOp_plain' hos hgs ?_
        refine Oper.wp_mono ?_ (hstore v w' g J0 p1 p3 (fun e he hb' oe te h1 h2 h3 => J1 e.on oe te h1 h2 h3 (hall e he hb')))
        rintro a'' w'' ⟨rfl, ho2, cs', hB, hF⟩
        refine ⟨v, rfl, Below.only J0 p2 J0.size ho2, ?_, ?_, ?_⟩
        · intro j oj t hj ht hne hd2
          have hji : j ≠ i := fun q => by subst q; rw [hos] at hj; cases hj; rw [hds] at ht; cases ht
          rw [upd_ne _ _ hji] at hd2
          exact (hst t).2 T _ _ _ _ _ (J1 j oj t hj ht hne hd2) p3 ho2
        · intro _
          exact ⟨g, cs', p1, p2, hB, fun _ => hF, fun q => by rw [upd_same] at q; cases q⟩
        · intro _
          rw [upd_ne _ _ (Ne.symm hia)]; exact hDa
      | some t =>
        have htA : t ≠ tA := fun q => hia (by subst q; exact hinj ho hoa hd hda)
        refine wpOp_mono ?_ (hval i o t v w' ho hia hd J0 (fun e he hb' oe te h1 h2 h3 => J1 e.on oe te h1 h2 h3 (hall e he hb')))
        rintro a'' w'' ⟨x, rfl, hbl, hF⟩
        have nis : is ≠ i := fun q => by subst q; rw [hos] at ho; cases ho; rw [hds] at hd; cases hd
        refine ⟨_, putAll_put _ _ _ _ _ hn (hmem ho hd), J0.trans (hbl.mono J0.size), ?_, ?_, ?_⟩
        · intro j oj t' hj ht hne hd2
          by_cases hji : j = i
          · subst hji
            rw [ho] at hj
            cases hj
            rw [hd] at ht
            cases ht
            rw [upd_same]
            exact hF
          · rw [upd_ne _ _ hji] at hd2
            have htt : t' ≠ t := fun q => hji (by subst q; exact hinj hj ho ht hd)
            rw [upd_ne _ _ htt]
            exact (hst t').1 _ _ _ (J1 j oj t' hj ht hne hd2) hbl
        · intro h
          rw [upd_ne _ _ (Ne.symm hia)] at h
          obtain ⟨g, cs, p1, p2, p3, p4, pz⟩ := J2 h
          refine ⟨g, cs, by rw [upd_ne _ _ (Ne.symm htA)]; exact p1, p2, p3.below hbl, fun h' => ?_, fun h' => ?_⟩
          · rw [upd_ne _ _ nis] at h'
            exact hfst _ _ _ (p4 h') hbl
          · rw [upd_ne _ _ nis] at h'
            exact pz h'
        · intro h
          rw [upd_ne _ _ nis] at h
          rw [upd_ne _ _ (Ne.symm hia)]
          exact J3 h
  · intro D v w' hall hJ
    obtain ⟨J0, J1, J2, J3⟩ := hJ
    have lt_of : ∀ {i : Nat} {o : Oper}, ops[i]? = some o → i < ops.size := fun {i o} h => by
      rcases Nat.lt_or_ge i ops.size with k | k
      · exact k
      · rw [Array.getElem?_eq_none k] at h; cases h
    obtain ⟨g, cs, p1, p2, p3, p4, _⟩ := J2 (hall ia (lt_of hoa))
    exact hend v w' g cs J0 (fun i o t hi ht hne => J1 i o t hi ht hne (hall i (lt_of hi))) p1 p2 p3 (p4 (hall is (lt_of hos)))
end
end Go.Proofs.YtmcijgnbdnpanaaGreat
