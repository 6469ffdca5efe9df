/- Long division by a limb in halves: the estimate of a half limb and its corrections. Plain arithmetic. -/
import Derived.Test.YtflcgeehpboldaaWord
namespace Go.Proofs.Ytflcgeehpboldaa
open Go.RowKit

def H32 : Nat := 4294967296
theorem H32_eq : H32 = 4294967296 := rfl

/-- What holds of a digit's guess q and the rest r. -/
structure Est (Y Y1 Y0 U u Q q r : Nat) : Prop where
  sum : q * Y1 + r = U
  ge : Q ≤ q
  lt : r < H32
/-- What is divided. -/
structure EstOf (Y Y1 Y0 U u Q : Nat) : Prop where
  eY : Y = Y1 * H32 + Y0
  lY0 : Y0 < H32
  lY1 : Y1 < H32
  pY1 : 0 < Y1
  lU : U < Y
  lu : u < H32
  eQ : Q = (U * H32 + u) / Y

section
variable {Y Y1 Y0 U u Q q r : Nat}
theorem EstOf.le (h : EstOf Y Y1 Y0 U u Q) : Q * Y ≤ U * H32 + u := by rw [h.eQ]; exact Nat.div_mul_le_self _ _
theorem EstOf.max (h : EstOf Y Y1 Y0 U u Q) (hq : q * Y ≤ U * H32 + u) : q ≤ Q := by
  rw [h.eQ, Nat.le_div_iff_mul_le (by have := h.eY; have := h.pY1; have := Nat.mul_pos h.pY1 (show 0 < H32 by decide); omega)]; exact hq
theorem EstOf.start (h : EstOf Y Y1 Y0 U u Q) : Est Y Y1 Y0 U u Q (U / Y1) (U % Y1) := by
  refine ⟨by rw [Nat.mul_comm]; exact Nat.div_add_mod U Y1, ?_, Nat.lt_trans (Nat.mod_lt _ h.pY1) h.lY1⟩
  rw [Nat.le_div_iff_mul_le h.pY1]
  have h1 := h.le
  have h2 := h.lu
  rw [h.eY, Nat.mul_add, ← Nat.mul_assoc] at h1
  generalize Q * Y1 = a at *
  generalize Q * Y0 = b at *
  rw [H32_eq] at *
  omega
theorem EstOf.eq (h : EstOf Y Y1 Y0 U u Q) (e : Est Y Y1 Y0 U u Q q r) (hc : q * Y0 ≤ H32 * r + u) : q = Q := by
  have h1 : q * Y ≤ U * H32 + u := by
    rw [h.eY, ← e.sum]
    grind
  have := h.max h1
  have := e.ge
  omega
theorem EstOf.down (h : EstOf Y Y1 Y0 U u Q) (e : Est Y Y1 Y0 U u Q q r) (hc : H32 ≤ q ∨ H32 * r + u < q * Y0) : Q + 1 ≤ q := by
  have hge := e.ge
  rcases Nat.lt_or_eq_of_le hge with h1 | h1
  · exact h1
  · exfalso
    have hle := h.le
    rw [h1] at hle
    rcases hc with hc | hc
    · have h2 := Nat.mul_le_mul_right Y hc
      have h3 := Nat.mul_lt_mul_of_pos_right h.lU (show 0 < H32 by decide)
      have h4 := h.lu
      have h5 := h.lU
      have h6 : (U + 1) * H32 ≤ Y * H32 := Nat.mul_le_mul_right _ h5
      rw [Nat.add_mul] at h6
      rw [Nat.mul_comm H32 Y] at h2
      omega
    · rw [h.eY, ← e.sum] at hle
      grind
theorem Est.next (e : Est Y Y1 Y0 U u Q q r) (hq : Q + 1 ≤ q) (hr : r + Y1 < H32) : Est Y Y1 Y0 U u Q (q - 1) (r + Y1) := by
  obtain ⟨p, rfl⟩ : ∃ p, q = p + 1 := ⟨q - 1, by omega⟩
  refine ⟨?_, by omega, hr⟩
  have := e.sum
  rw [Nat.add_sub_cancel]
  grind
theorem EstOf.stop (h : EstOf Y Y1 Y0 U u Q) (e : Est Y Y1 Y0 U u Q q r) (hq : Q + 1 ≤ q) (hr : H32 ≤ r + Y1) : q - 1 = Q := by
  obtain ⟨p, rfl⟩ : ∃ p, q = p + 1 := ⟨q - 1, by omega⟩
  rw [Nat.add_sub_cancel]
  have hs : p * Y1 + (r + Y1) = U := by have := e.sum; grind
  have hY := h.eY
  have hU := h.lU
  have hY0 := h.lY0
  have hp : p < H32 := by
    have h1 : p * Y1 < H32 * Y1 := by
      rw [Nat.mul_comm H32]; omega
    exact Nat.lt_of_mul_lt_mul_right h1
  have h2 : p * Y0 ≤ H32 * (r + Y1) := Nat.le_trans (Nat.mul_le_mul (Nat.le_of_lt hp) (Nat.le_of_lt hY0)) (Nat.mul_le_mul_left _ hr)
  have h1 : p * Y ≤ U * H32 + u := by
    rw [hY, ← hs]
    grind
  have := h.max h1
  omega
end
end Go.Proofs.Ytflcgeehpboldaa
