/- The document's own answers of layer 2: signed numbers by value. -/
import Derived.Test.YtmcijgnbdnpanaaRefP
import Derived.Test.YtmcijgnbdnpanaaZedFun
import Derived.Test.YtmcijgnbdnpanaaRefRoot
import Derived.Deep.RegionHeld3
namespace Go.Proofs.Ytmcijgnbdnpanaa
open Go.RowKit

section
variable {W W' : World} {g : Nat} {x y : Value}
end
/-- The struct's number, v; at most k limbs. -/
def RZ (w : World) (s : Bool) (A : Option Addr) (n c : Nat) (v : Int) (k : Nat) : Prop := ∃ U, RN w A n c U k ∧ iv s U = v
/-- .. in its good form. -/
def RG (w : World) (s : Bool) (A : Option Addr) (n c : Nat) (v : Int) (k : Nat) : Prop := s = decide (v < 0) ∧ RN w A n c v.natAbs k
def GivesRZ (w : World) (v : Int) (k : Nat) (e : Ending) (w' : World) : Prop :=
  ∃ s A n c, e = .returned (.agg #[.bool s, .slice A n c]) ∧ RG w' s A n c v k ∧ Below w.heap.size w w'
theorem iv_canon (v : Int) : iv (decide (v < 0)) v.natAbs = v := by
  unfold iv
  by_cases h : v < 0
  · simp [h]; omega
  · simp [h]; omega
theorem RG.rz {w : World} {s : Bool} {A : Option Addr} {n c k : Nat} {v : Int} (h : RG w s A n c v k) : RZ w s A n c v k := ⟨_, h.2, by rw [h.1]; exact iv_canon v⟩
theorem RG.below {w w' : World} {s : Bool} {A : Option Addr} {n c k : Nat} {v : Int} (h : RG w s A n c v k) (hb : Below w.heap.size w w') : RG w' s A n c v k := ⟨h.1, h.2.below hb⟩
theorem RZ.below {w w' : World} {s : Bool} {A : Option Addr} {n c k : Nat} {v : Int} (h : RZ w s A n c v k) (hb : Below w.heap.size w w') : RZ w' s A n c v k := by
  obtain ⟨U, h1, h2⟩ := h
  exact ⟨U, h1.below hb, h2⟩
theorem rn_pos {w : World} {A : Option Addr} {n c V k : Nat} (h : RN w A n c V k) : decide (0 < n) = decide (0 < V) := by
  have hl := h.1.1
  by_cases h0 : V = 0
  · rw [h0, limbs_zero] at hl
    rw [h0, ← hl]; rfl
  · rw [limbs_pos B32_two h0] at hl
    simp at hl
    rw [decide_eq_true (by omega : 0 < n), decide_eq_true (by omega : 0 < V)]
theorem RN.more {w : World} {A : Option Addr} {n c V k k1 : Nat} (h : RN w A n c V k) (hk : k ≤ k1) : RN w A n c V k1 := ⟨h.1, h.2.1, Nat.le_trans h.2.2 hk⟩
theorem pow_sum32 {k1 k2 k a b : Nat} (ha : a < B32 ^ k1) (hb : b < B32 ^ k2) (h1 : k1 + 1 ≤ k) (h2 : k2 + 1 ≤ k) : a + b < B32 ^ k := by
  obtain ⟨j, rfl⟩ : ∃ j, k = j + 1 := ⟨k - 1, by omega⟩
  have e1 : B32 ^ k1 ≤ B32 ^ j := Nat.pow_le_pow_right (by decide) (by omega)
  have e2 : B32 ^ k2 ≤ B32 ^ j := Nat.pow_le_pow_right (by decide) (by omega)
  have h3 : B32 ^ j * 2 ≤ B32 ^ (j + 1) := by rw [Nat.pow_succ]; exact Nat.mul_le_mul_left _ (by decide)
  omega

theorem sgn_iv_t {U : Nat} (h : U ≠ 0) : sgn (iv true U) = -1 := by unfold sgn iv; rw [if_pos (by simp; omega)]
theorem sgn_iv_f {U : Nat} (h : U ≠ 0) : sgn (iv false U) = 1 := by unfold sgn iv; rw [if_neg (by simp), if_neg (by simp; omega)]

theorem sgn_sub (v u : Int) : sgn (v - u) = cmpZ v u := by unfold sgn cmpZ; (repeat' split) <;> omega
end Go.Proofs.Ytmcijgnbdnpanaa
