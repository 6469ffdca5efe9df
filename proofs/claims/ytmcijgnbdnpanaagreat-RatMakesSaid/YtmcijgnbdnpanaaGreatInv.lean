/- A region that draws its order, by an invariant: what holds of the operations that have come up, whichever these are. -/
import Derived.Orders
import Derived.WalkKit
import Derived.Test.YtmcijgnbdnpanaaGreatProg
namespace Go.Proofs.YtmcijgnbdnpanaaGreat
open Go

def upd {α : Type} (f : Nat → α) (d : Nat) (x : α) : Nat → α := fun k => if k = d then x else f k
theorem upd_same {α : Type} (f : Nat → α) (d : Nat) (x : α) : upd f d x d = x := by simp [upd]
theorem upd_ne {α : Type} (f : Nat → α) {d k : Nat} (x : α) (h : k ≠ d) : upd f d x k = f k := by simp [upd, h]

/-- Slots d of l hold v d; all else is as in a. -/
def putAll (a : Act) : List Nat → (Nat → Value) → Act
  | [], _ => a
  | d :: l, v => putAll (a.put (some d) (v d)) l v

theorem put_put (a : Act) (d : Nat) (x y : Value) : (a.put (some d) x).put (some d) y = a.put (some d) y := by
  simp [Act.put]
theorem putAll_comm (x : Value) (d : Nat) (v : Nat → Value) : ∀ (l : List Nat) (a : Act), d ∉ l → (putAll a l v).put (some d) x = putAll (a.put (some d) x) l v
  | [], _, _ => rfl
  | e :: l, a, h => by
    have h1 : e ≠ d := fun k => h (by simp [k])
    have h2 : d ∉ l := fun k => h (by simp [k])
    rw [putAll, putAll_comm x d v l _ h2, putAll]
    congr 1
    simp [Act.put, Array.setIfInBounds_comm _ _ h1]
theorem putAll_congr {v u : Nat → Value} : ∀ (l : List Nat) (a : Act), (∀ d ∈ l, v d = u d) → putAll a l v = putAll a l u
  | [], _, _ => rfl
  | e :: l, a, h => by
    rw [putAll, putAll, h e (by simp)]
    exact putAll_congr l _ fun d hd => h d (by simp [hd])
theorem putAll_put (x : Value) (d : Nat) (v : Nat → Value) : ∀ (l : List Nat) (a : Act), l.Nodup → d ∈ l → (putAll a l v).put (some d) x = putAll a l (upd v d x)
  | [], _, _, h => by cases h
  | e :: l, a, hn, h => by
    have hn' := List.nodup_cons.1 hn
    by_cases hd : e = d
    · subst hd
      rw [putAll, putAll_comm x e v l _ hn'.1, put_put, putAll, upd_same]
      exact putAll_congr l _ fun k hk => (upd_ne v x (fun q => by subst q; exact hn'.1 hk)).symm
    · have hm : d ∈ l := by
        cases h with
        | head => exact absurd rfl hd
        | tail _ h => exact h
      rw [putAll, putAll_put x d v l _ hn'.2 hm, putAll, upd_ne v x hd]
theorem put_self (a : Act) (d : Nat) : a.put (some d) (a.tmps.getD d undef) = a := by
  cases a with
  | mk tmps defers =>
    simp only [Act.put]
    congr 1
    apply Array.ext
    · simp
    · intro i h1 h2
      simp only [Array.getElem_setIfInBounds h2]
      split
      · rename_i h; subst h; simp [h2]
      · rfl
theorem putAll_self (a : Act) : ∀ (l : List Nat), putAll a l (fun d => a.tmps.getD d undef) = a
  | [] => rfl
  | d :: l => by rw [putAll, put_self]; exact putAll_self a l

section
variable {P : Program} {ops : Array Oper} {Q : Exit → Act → World → Prop}

/-- All edges go back. -/
def backB (ops : Array Oper) : Bool := (List.range ops.size).all fun i => ((ops[i]?).map fun o => o.after.all fun e => !Region.binds .any e || decide (e.on < i)).getD true
theorem all_listed {listed : Array Bool} (hs : listed.size = ops.size) (hb : backB ops = true) (hr : Region.ready .any ops listed = []) : ∀ i, i < ops.size → listed.getD i false = true := by
  intro i
  induction i using Nat.strongRecOn with
  | ind i ih =>
    intro hi
    cases hl : listed.getD i false with
    | true => rfl
    | false =>
      exfalso
      have hm : i ∈ Region.ready .any ops listed := by
        unfold Region.ready
        rw [List.mem_filter]
        refine ⟨by simpa using hi, ?_⟩
        have h1 : listed.getD i true = false := by
          simp only [Array.getD_eq_getD_getElem?, Array.getElem?_eq_getElem (show i < listed.size by omega), Option.getD_some] at hl ⊢; exact hl
        rw [h1, Array.getElem?_eq_getElem hi]
        simp only [Bool.not_false, Option.map_some, Option.getD_some, Bool.true_and]
        rw [Array.all_eq_true]
        intro j hj
        have h2 := List.all_eq_true.1 hb i (by simpa using hi)
        rw [Array.getElem?_eq_getElem hi] at h2
        simp only [Option.map_some, Option.getD_some] at h2
        have h3 := Array.all_eq_true.1 h2 j hj
        cases hbd : Region.binds .any (ops[i].after[j]) with
        | false => simp
        | true =>
          rw [hbd] at h3
          have h4 : (ops[i].after[j]).on < i := of_decide_eq_true (by simpa using h3)
          rw [ih _ h4 (by omega)]
          simp
      rw [hr] at hm; cases hm

theorem wpAny_inv (J : (Nat → Bool) → Act → World → Prop) (hb : backB ops = true)
    (hstep : ∀ (i : Nat) (o : Oper) (D : Nat → Bool) (a : Act) (w : World), ops[i]? = some o → D i = false → (∀ e ∈ o.after, Region.binds .any e = true → D e.on = true) → J D a w →
      wpOp P ops Q i (fun a' w' => J (upd D i true) a' w') a w)
    (hend : ∀ (D : Nat → Bool) (a : Act) (w : World), (∀ i, i < ops.size → D i = true) → J D a w → Q .normal a w)
    (hcong : ∀ D D' a w, (∀ i, i < ops.size → D i = D' i) → J D a w → J D' a w) :
    ∀ (fuel : Nat) (listed : Array Bool) (a : Act) (w : World), listed.size = ops.size → listed.toList.count false ≤ fuel → J (fun i => listed.getD i false) a w → wpAny P .any ops Q fuel listed a w
  | 0, listed, a, w, hs, hf, hJ => by
    have hall : ∀ i, i < ops.size → listed.getD i false = true := by
      intro i hi
      have h0 : listed.toList.count false = 0 := by omega
      have hi' : i < listed.size := by omega
      have := List.count_eq_zero.1 h0
      simp only [Array.getD_eq_getD_getElem?, Array.getElem?_eq_getElem hi', Option.getD_some]
      cases h : listed[i] with
      | true => rfl
      | false => exact absurd (by rw [← h]; exact Array.mem_toList_iff.2 (Array.getElem_mem hi')) this
    refine ⟨?_, hend _ _ _ hall hJ⟩
    unfold Region.ready
    rw [List.filter_eq_nil_iff]
    intro i hi
    have hi2 : i < ops.size := by simpa using hi
    have h2 : listed.getD i true = true := by
      have h := hall i hi2
      have hi' : i < listed.size := by omega
      simp only [Array.getD_eq_getD_getElem?, Array.getElem?_eq_getElem hi', Option.getD_some] at h ⊢; exact h
    simp [h2]
  | fuel + 1, listed, a, w, hs, hf, hJ => by
    refine ⟨fun hr => hend _ _ _ (all_listed hs hb hr) hJ, fun i hi => ?_⟩
    obtain ⟨hjun, o, ho, hall⟩ := mem_ready.1 hi
    have hi1 : i < ops.size := by
      rcases Nat.lt_or_ge i ops.size with h | h
      · exact h
      · rw [Array.getElem?_eq_none h] at ho; cases ho
    have hi' : i < listed.size := by omega
    have hl : listed[i] = false := by
      simp only [Array.getD_eq_getD_getElem?, Array.getElem?_eq_getElem hi', Option.getD_some] at hjun; exact hjun
    have hD : listed.getD i false = false := by
      simp only [Array.getD_eq_getD_getElem?, Array.getElem?_eq_getElem hi', Option.getD_some]; exact hl
    refine wpOp_mono (fun a' w' h => wpAny_inv J hb hstep hend hcong fuel _ a' w' (by simpa using hs) ?_ (hcong _ _ _ _ (fun j hj => ?_) h)) (hstep i o _ a w ho hD hall hJ)
    · rw [Array.toList_setIfInBounds, List.count_set (by simpa using hi')]
      have : listed.toList[i]'(by simpa using hi') = false := by simpa using hl
      rw [this]
      show listed.toList.count false - 1 + 0 ≤ fuel
      omega
    · by_cases hji : j = i
      · subst hji
        rw [upd_same]
        simp [hi']
      · rw [upd_ne _ _ hji]
        simp [Array.getD_eq_getD_getElem?, Ne.symm hji]

/-- The region by an invariant on what has come up, on the slots that it writes, and on the world. -/
theorem wp_region_inv {id : Nat} {a : Act} {w : World} (l : List Nat) (J : (Nat → Bool) → (Nat → Value) → World → Prop) (hm : P.follows .mixedOrders = true) (hb : backB ops = true)
    (h0 : J (fun _ => false) (fun d => a.tmps.getD d undef) w.drew)
    (hcong : ∀ D D' v w, (∀ i, i < ops.size → D i = D' i) → J D v w → J D' v w)
    (hstep : ∀ (i : Nat) (o : Oper) (D : Nat → Bool) (v : Nat → Value) (w : World), ops[i]? = some o → D i = false → (∀ e ∈ o.after, Region.binds .any e = true → D e.on = true) → J D v w →
      wpOp P ops Q i (fun a' w' => ∃ v', a' = putAll a l v' ∧ J (upd D i true) v' w') (putAll a l v) w)
    (hend : ∀ (D : Nat → Bool) (v : Nat → Value) (w : World), (∀ i, i < ops.size → D i = true) → J D v w → Q .normal (putAll a l v) w) :
    (Code.region id ops true).wp P Q a w := by
  refine wp_region_any hm (wpAny_inv (fun D a' w' => ∃ v, a' = putAll a l v ∧ J D v w') hb ?_ ?_ ?_ _ _ _ _ (by simp) (by simp) ?_)
  · rintro i o D a' w' ho hD hall ⟨v, rfl, hJ⟩
    exact hstep i o D v w' ho hD hall hJ
  · rintro D a' w' hall ⟨v, rfl, hJ⟩
    exact hend D v w' hall hJ
  · rintro D D' a' w' h ⟨v, e, hJ⟩
    exact ⟨v, e, hcong D D' v w' h hJ⟩
  · refine ⟨_, (putAll_self a l).symm, hcong _ _ _ _ (fun i hi => ?_) h0⟩
    simp [hi]
end
end Go.Proofs.YtmcijgnbdnpanaaGreat
