/- The document's own answers: Parse. -/
import Derived.Test.YtmcijgnbdnpanaaRefT
namespace Go.Proofs.Ytmcijgnbdnpanaa
open Go.RowKit

theorem b32_pos (k : Nat) : 0 < B32 ^ k := Nat.pow_pos (by decide)
theorem lt_mul32 {x : Nat} (h : 0 < x) : x < x * B32 := by
  have := Nat.mul_le_mul_left x (show 2 ≤ B32 by decide)
  omega
theorem RN.zero (w : World) (k : Nat) : RN w none 0 0 0 k := RN.of (by rw [limbs_zero]; exact Rd.nil) (Nat.le_refl _) (b32_pos _)
theorem lt_succ32 {x j k : Nat} (h : x < B32 ^ k) (hj : j = k + 1) : x < B32 ^ j := by
  rw [hj, Nat.pow_succ]
  exact Nat.lt_trans h (lt_mul32 (b32_pos k))
theorem prod_fit32 {a p v j k : Nat} (h : a * p + v < B32 ^ k) (hj : j = k + 1) : a * p < B32 ^ j := Nat.lt_of_le_of_lt (Nat.le_add_right _ _) (lt_succ32 h hj)
theorem lt_64of32 {x j k : Nat} (h : x < B32 ^ j) (hj : j = 2 * k) : x < B64 ^ k := by rw [hj, b32_pow] at h; exact h
theorem dec_fit {l : List UInt8} (h : Digits l) (hl : l.length ≤ 20000) : dec l < B32 ^ 2500 := by
  refine Nat.lt_of_lt_of_le (dec_lt h) ?_
  have h0 : ∀ q, l.length ≤ 8 * q → 10 ^ l.length ≤ B32 ^ q := fun q hq => by
    rw [b32_two]
    refine Nat.le_trans (Nat.pow_le_pow_left (show 10 ≤ 2 ^ 4 by decide) _) ?_
    rw [← Nat.pow_mul]
    exact Nat.pow_le_pow_right (by decide) (by omega)
  exact h0 2500 (by omega)
/-- What Parse tells. -/
def RParsed (s : ByteArray) (w : World) (e : Ending) (w' : World) : Prop :=
  (isTextB s.data.toList = false ∧ e = .returned (.tuple #[.slice none 0 0, .int .i64 11]) ∧ w = w') ∨
  (isTextB s.data.toList = true ∧ ∃ A n c, e = .returned (.tuple #[.slice A n c, .int .i64 0]) ∧ RN w' A n c (dec s.data.toList) 2500 ∧ Below w.heap.size w w')

end Go.Proofs.Ytmcijgnbdnpanaa
