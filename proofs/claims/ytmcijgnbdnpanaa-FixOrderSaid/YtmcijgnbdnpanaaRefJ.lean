/- reference: Gcd; its numbers told by their value alone. -/
import Derived.Test.YtmcijgnbdnpanaaRefDiv
import Derived.Test.YtmcijgnbdnpanaaNR
namespace Go.Proofs.Ytmcijgnbdnpanaa
open Go.RowKit

/-- The slice of 32-bit limbs holds the number V as its own limbs, at most k. -/
def RN (w : World) (A : Option Addr) (n c V k : Nat) : Prop := Rd .u32 w A n (limbs B32 V) ∧ n ≤ c ∧ n ≤ k
theorem RN.below {w w' : World} {A : Option Addr} {n c V k : Nat} (h : RN w A n c V k) (hb : Below w.heap.size w w') : RN w' A n c V k := ⟨h.1.below hb, h.2.1, h.2.2⟩
theorem RN.lt {w : World} {A : Option Addr} {n c V k : Nat} (h : RN w A n c V k) : V < B32 ^ k := by
  have := lt_pow_limbs B32_two V
  rw [h.1.1] at this
  exact Nat.lt_of_lt_of_le this (Nat.pow_le_pow_right (by decide) h.2.2)
theorem RN.of {w : World} {A : Option Addr} {n c V k : Nat} (h : Rd .u32 w A n (limbs B32 V)) (hc : n ≤ c) (hk : V < B32 ^ k) : RN w A n c V k := ⟨h, hc, by rw [← h.1]; exact length_limbs_le B32_two hk⟩
/-- The call tells the number V. -/
def GivesR (w : World) (V k : Nat) (e : Ending) (w' : World) : Prop := ∃ A n c, e = .returned (.slice A n c) ∧ RN w' A n c V k ∧ Below w.heap.size w w'
/-- The call tells the numbers Q and R in a struct. -/
def GivesRR (w : World) (Q R k1 k2 : Nat) (e : Ending) (w' : World) : Prop := ∃ A n c A' n' c', e = .returned (.agg #[.slice A n c, .slice A' n' c']) ∧ RN w' A n c Q k1 ∧ RN w' A' n' c' R k2 ∧ Below w.heap.size w w'
theorem GivesS.r {w w' : World} {V k : Nat} {e : Ending} (h : GivesS .u32 138 w (limbs B32 V) e w') (hk : V < B32 ^ k) : GivesR w V k e w' := by
  obtain ⟨A, n, c, rfl, h1, h2, h3, h4⟩ := h
  exact ⟨A, n, c, rfl, RN.of h3.rd h1 hk, h4⟩
theorem b32_pow (k : Nat) : B32 ^ (2 * k) = B64 ^ k := by rw [Nat.pow_mul]; rfl

section
variable {w : World} {A B : Option Addr} {n c m d U V k k1 k2 : Nat}
end

/-- The number that a slice of 32-bit limbs holds, read off the memory. -/
def rd32 (w : World) : Value → Nat
  | .slice (some a) n _ => val B32 ((List.range n).map fun i => match w.cell? (a.add i) with | some (.int _ x) => x.toNat | _ => 0)
  | _ => 0
theorem rd32_eq {w : World} {A : Option Addr} {n c : Nat} {l : List Nat} (h : Rd .u32 w A n l) : rd32 w (.slice A n c) = val B32 l := by
  rcases Nat.eq_zero_or_pos n with h0 | h0
  · subst h0
    have : l = [] := List.eq_nil_of_length_eq_zero h.1
    subst this
    cases A <;> simp [rd32]
  · obtain ⟨b, o, rfl, hc⟩ := h.2 h0
    show val B32 _ = _
    congr 1
    apply List.ext_getElem
    · simp [h.1]
    · intro i h1 h2
      simp only [List.getElem_map, List.getElem_range, add_at]
      rw [hc i _ (List.getElem?_eq_getElem h2)]
      simp

end Go.Proofs.Ytmcijgnbdnpanaa
