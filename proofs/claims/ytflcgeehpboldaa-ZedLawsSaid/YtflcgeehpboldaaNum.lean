/- Numbers by limbs to a base: what a list of limbs comes to, the limbs of a number, and that the two undo each other. Plain mathematics; it speaks of no program. -/
namespace Go.Proofs.Ytflcgeehpboldaa
open Nat

/-- What the limbs l come to, the lowest first. -/
def val (B : Nat) : List Nat → Nat
  | [] => 0
  | x :: l => x + B * val B l

/-- All limbs are below B. -/
def Lim (B : Nat) (l : List Nat) : Prop := ∀ x, x ∈ l → x < B

/-- The limbs of n, no highest one 0 (B at least 2). -/
def limbs (B : Nat) (n : Nat) : List Nat :=
  if _h : n = 0 ∨ B < 2 then [] else n % B :: limbs B (n / B)
termination_by n
decreasing_by exact Nat.div_lt_self (by omega) (by omega)

section
variable {B : Nat}
@[simp] theorem val_nil : val B [] = 0 := rfl
@[simp] theorem val_cons (x : Nat) (l : List Nat) : val B (x :: l) = x + B * val B l := rfl
theorem val_append (a b : List Nat) : val B (a ++ b) = val B a + B ^ a.length * val B b := by
  induction a with
  | nil => simp
  | cons x a ih =>
    simp only [List.cons_append, val_cons, ih, List.length_cons, Nat.pow_succ, Nat.mul_add, Nat.add_assoc]
    rw [Nat.mul_comm (B ^ a.length) B, Nat.mul_assoc]
theorem val_snoc (a : List Nat) (x : Nat) : val B (a ++ [x]) = val B a + B ^ a.length * x := by
  rw [val_append]; simp
theorem Lim.nil : Lim B [] := fun _ h => by cases h
theorem Lim.cons {x : Nat} {l : List Nat} (hx : x < B) (h : Lim B l) : Lim B (x :: l) := by
  intro y hy; rcases List.mem_cons.1 hy with rfl | hy
  · exact hx
  · exact h y hy
theorem Lim.head {x : Nat} {l : List Nat} (h : Lim B (x :: l)) : x < B := h x (by simp)
theorem Lim.tail {x : Nat} {l : List Nat} (h : Lim B (x :: l)) : Lim B l := fun y hy => h y (by simp [hy])
theorem Lim.take {l : List Nat} (h : Lim B l) (k : Nat) : Lim B (l.take k) := fun y hy => h y (List.mem_of_mem_take hy)
theorem Lim.drop {l : List Nat} (h : Lim B l) (k : Nat) : Lim B (l.drop k) := fun y hy => h y (List.mem_of_mem_drop hy)
theorem Lim.append {a b : List Nat} (ha : Lim B a) (hb : Lim B b) : Lim B (a ++ b) := by
  intro y hy; rcases List.mem_append.1 hy with hy | hy
  · exact ha y hy
  · exact hb y hy
theorem Lim.get {l : List Nat} (h : Lim B l) {k x : Nat} (hx : l[k]? = some x) : x < B := h x (List.mem_of_getElem? hx)
theorem Lim.zeros (n : Nat) (hB : 0 < B) : Lim B (List.replicate n 0) := by
  intro y hy; rw [List.eq_of_mem_replicate hy]; exact hB
theorem val_zeros (n : Nat) : val B (List.replicate n 0) = 0 := by
  induction n with
  | zero => rfl
  | succ n ih => rw [List.replicate_succ, val_cons, ih]; simp
theorem val_lt {l : List Nat} (h : Lim B l) : val B l < B ^ l.length := by
  induction l with
  | nil => simp
  | cons x l ih =>
    have h1 := h.head
    have h2 := ih h.tail
    rw [val_cons, List.length_cons, Nat.pow_succ, Nat.mul_comm (B ^ l.length)]
    calc x + B * val B l < B + B * val B l := by omega
      _ = B * (val B l + 1) := by rw [Nat.mul_add]; omega
      _ ≤ B * B ^ l.length := Nat.mul_le_mul_left _ h2
theorem val_take_drop (l : List Nat) (k : Nat) (hk : k ≤ l.length) : val B l = val B (l.take k) + B ^ k * val B (l.drop k) := by
  have := val_append (B := B) (l.take k) (l.drop k)
  rw [List.take_append_drop, List.length_take, Nat.min_eq_left hk] at this
  exact this
theorem val_take {l : List Nat} (h : Lim B l) (k : Nat) (hk : k ≤ l.length) : val B (l.take k) = val B l % B ^ k := by
  have h1 := val_take_drop (B := B) l k hk
  have h2 := val_lt (h.take k)
  rw [List.length_take, Nat.min_eq_left hk] at h2
  rw [h1, Nat.add_mul_mod_self_left, Nat.mod_eq_of_lt h2]
theorem val_drop {l : List Nat} (h : Lim B l) (k : Nat) (hk : k ≤ l.length) (hB : 0 < B) : val B (l.drop k) = val B l / B ^ k := by
  have h1 := val_take_drop (B := B) l k hk
  have h2 := val_lt (h.take k)
  rw [List.length_take, Nat.min_eq_left hk] at h2
  rw [h1, Nat.add_mul_div_left _ _ (Nat.pow_pos hB), Nat.div_eq_of_lt h2, Nat.zero_add]

theorem limbs_zero : limbs B 0 = [] := by rw [limbs]; simp
theorem limbs_pos (hB : 2 ≤ B) {n : Nat} (h : n ≠ 0) : limbs B n = n % B :: limbs B (n / B) := by
  rw [limbs, dif_neg (by omega)]
theorem val_limbs (hB : 2 ≤ B) (n : Nat) : val B (limbs B n) = n := by
  induction n using Nat.strongRecOn with
  | ind n ih =>
    by_cases h : n = 0
    · subst h; rw [limbs_zero]; rfl
    · rw [limbs_pos hB h, val_cons, ih _ (Nat.div_lt_self (by omega) (by omega))]
      exact Nat.mod_add_div n B
theorem lim_limbs (hB : 2 ≤ B) (n : Nat) : Lim B (limbs B n) := by
  induction n using Nat.strongRecOn with
  | ind n ih =>
    by_cases h : n = 0
    · subst h; rw [limbs_zero]; exact Lim.nil
    · rw [limbs_pos hB h]
      exact Lim.cons (Nat.mod_lt _ (by omega)) (ih _ (Nat.div_lt_self (by omega) (by omega)))
theorem limbs_eq_nil (hB : 2 ≤ B) {n : Nat} : limbs B n = [] ↔ n = 0 := by
  constructor
  · intro h
    by_cases h0 : n = 0
    · exact h0
    · rw [limbs_pos hB h0] at h; cases h
  · rintro rfl; exact limbs_zero
/-- The highest limb of a number's limbs is not 0. -/
theorem limbs_last (hB : 2 ≤ B) (n : Nat) : (limbs B n).getLast? ≠ some 0 := by
  induction n using Nat.strongRecOn with
  | ind n ih =>
    by_cases h : n = 0
    · subst h; rw [limbs_zero]; simp
    · rw [limbs_pos hB h]
      by_cases h2 : n / B = 0
      · rw [h2, limbs_zero]
        have : n % B = n := Nat.mod_eq_of_lt (by rcases Nat.div_eq_zero_iff.1 h2 with h | h <;> omega)
        rw [this]; simpa using h
      · have h3 := ih _ (Nat.div_lt_self (by omega) (by omega) : n / B < n)
        have h4 : limbs B (n / B) ≠ [] := fun e => h2 ((limbs_eq_nil hB).1 e)
        rw [List.getLast?_cons]
        cases h5 : (limbs B (n / B)).getLast? with
        | none => exact absurd (List.getLast?_eq_none_iff.1 h5) h4
        | some x => rw [h5] at h3; simpa using h3
/-- Limbs whose highest one is not 0 are their number's. -/
theorem limbs_val (hB : 2 ≤ B) {l : List Nat} (h : Lim B l) (ht : l.getLast? ≠ some 0) : limbs B (val B l) = l := by
  induction l with
  | nil => exact limbs_zero
  | cons x l ih =>
    have hx := h.head
    have hne : val B (x :: l) ≠ 0 := by
      intro e
      have ht2 := ht
      rw [val_cons] at e
      have hx0 : x = 0 := by omega
      have hl0 : val B l = 0 := by
        rcases Nat.mul_eq_zero.1 (show B * val B l = 0 by omega) with h | h
        · omega
        · exact h
      cases l with
      | nil => subst hx0; simp at ht
      | cons y m =>
        have := ih h.tail (by rw [List.getLast?_cons] at ht; rw [List.getLast?_cons] at *; simpa using ht)
        rw [hl0, limbs_zero] at this
        cases this
    rw [limbs_pos hB hne, val_cons]
    have e1 : (x + B * val B l) % B = x := by rw [Nat.add_mul_mod_self_left, Nat.mod_eq_of_lt hx]
    have e2 : (x + B * val B l) / B = val B l := by
      rw [Nat.add_mul_div_left _ _ (by omega), Nat.div_eq_of_lt hx, Nat.zero_add]
    rw [e1, e2]
    cases l with
    | nil => simp [limbs_zero]
    | cons y m =>
      rw [ih h.tail (by rw [List.getLast?_cons] at ht; rw [List.getLast?_cons] at *; simpa using ht)]
theorem val_snoc_zeros (l : List Nat) (n : Nat) : val B (l ++ List.replicate n 0) = val B l := by
  rw [val_append, val_zeros]; simp
theorem val_inj (hB : 2 ≤ B) {a b : List Nat} (ha : Lim B a) (hb : Lim B b) (hl : a.length = b.length) (h : val B a = val B b) : a = b := by
  induction a generalizing b with
  | nil => cases b with
    | nil => rfl
    | cons y b => cases hl
  | cons x a ih => cases b with
    | nil => cases hl
    | cons y b =>
      have hx := ha.head
      have hy := hb.head
      rw [val_cons, val_cons] at h
      have e1 : x = y := by
        have h1 : (x + B * val B a) % B = x := by rw [Nat.add_mul_mod_self_left, Nat.mod_eq_of_lt hx]
        have h2 : (y + B * val B b) % B = y := by rw [Nat.add_mul_mod_self_left, Nat.mod_eq_of_lt hy]
        rw [← h1, ← h2, h]
      subst e1
      have e2 : val B a = val B b := Nat.eq_of_mul_eq_mul_left (show 0 < B by omega) (by omega)
      rw [ih ha.tail hb.tail (by simpa using hl) e2]
/-- As many limbs as it takes: of limbs l the number's own ones are the first ones. -/
theorem limbs_prefix (hB : 2 ≤ B) {l : List Nat} (h : Lim B l) : l = limbs B (val B l) ++ List.replicate (l.length - (limbs B (val B l)).length) 0 ∧ (limbs B (val B l)).length ≤ l.length := by
  induction l with
  | nil => simp [limbs_zero]
  | cons x l ih =>
    obtain ⟨h1, h2⟩ := ih h.tail
    have hx := h.head
    by_cases hne : val B (x :: l) = 0
    · rw [hne, limbs_zero]
      rw [val_cons] at hne
      have hx0 : x = 0 := by omega
      have hl0 : val B l = 0 := by
        rcases Nat.mul_eq_zero.1 (show B * val B l = 0 by omega) with h | h
        · omega
        · exact h
      rw [hl0, limbs_zero] at h1
      constructor
      · subst hx0
        simp only [List.nil_append, List.length_nil, Nat.sub_zero, List.length_cons, List.replicate_succ] at h1 ⊢
        rw [← h1]
      · simp
    · rw [limbs_pos hB hne, val_cons]
      have e1 : (x + B * val B l) % B = x := by rw [Nat.add_mul_mod_self_left, Nat.mod_eq_of_lt hx]
      have e2 : (x + B * val B l) / B = val B l := by
        rw [Nat.add_mul_div_left _ _ (by omega), Nat.div_eq_of_lt hx, Nat.zero_add]
      rw [e1, e2]
      constructor
      · simp only [List.cons_append, List.length_cons, Nat.add_sub_add_right]
        rw [← h1]
      · simpa using h2
theorem limbs_take (hB : 2 ≤ B) {l : List Nat} (h : Lim B l) : l.take (limbs B (val B l)).length = limbs B (val B l) := by
  obtain ⟨h1, _⟩ := limbs_prefix hB h
  exact (congrArg (List.take _) h1).trans List.take_left
theorem length_limbs_le (hB : 2 ≤ B) {n k : Nat} (h : n < B ^ k) : (limbs B n).length ≤ k := by
  induction k generalizing n with
  | zero => have : n = 0 := by simpa using h
            subst this; simp [limbs_zero]
  | succ k ih =>
    by_cases h0 : n = 0
    · subst h0; simp [limbs_zero]
    · rw [limbs_pos hB h0, List.length_cons]
      have : n / B < B ^ k := by
        rw [Nat.div_lt_iff_lt_mul (by omega)]
        rw [Nat.pow_succ] at h; exact h
      have := ih this
      omega
theorem lt_pow_limbs (hB : 2 ≤ B) (n : Nat) : n < B ^ (limbs B n).length := by
  have := val_lt (lim_limbs hB n)
  rwa [val_limbs hB] at this
theorem pow_le_of_length (hB : 2 ≤ B) {n k : Nat} (h : k < (limbs B n).length) : B ^ k ≤ n := by
  rcases Nat.lt_or_ge n (B ^ k) with h1 | h1
  · have := length_limbs_le hB h1; omega
  · exact h1
theorem length_limbs_mono (hB : 2 ≤ B) {m n : Nat} (h : m ≤ n) : (limbs B m).length ≤ (limbs B n).length :=
  length_limbs_le hB (Nat.lt_of_le_of_lt h (lt_pow_limbs hB n))
end
end Go.Proofs.Ytflcgeehpboldaa
