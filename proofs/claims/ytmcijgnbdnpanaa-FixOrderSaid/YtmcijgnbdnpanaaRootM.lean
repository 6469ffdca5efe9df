/- Roots between two numbers of parts, and numbers of parts: the mathematics. -/
import Derived.Test.YtmcijgnbdnpanaaRatN
import Derived.Test.YtmcijgnbdnpanaaRefRoot
namespace Go.Proofs.Ytmcijgnbdnpanaa

theorem lt_le {a b c : Rat} (h : a < b) (k : b ≤ c) : a < c := Rat.not_le.1 fun q => absurd h (Rat.not_lt.2 (Rat.le_trans k q))
theorem le_lt {a b c : Rat} (h : a ≤ b) (k : b < c) : a < c := Rat.not_le.1 fun q => absurd k (Rat.not_lt.2 (Rat.le_trans q h))
theorem sq_le {a b : Rat} (hb : 0 ≤ b) (h : a * a ≤ b * b) : a ≤ b := by
  rcases Rat.le_total (a := a) (b := b) with h1 | h1
  · exact h1
  · rcases Rat.le_iff_lt_or_eq.1 h1 with h2 | h2
    · exfalso
      have h3 : 0 < a := le_lt hb h2
      have h4 : b * b ≤ b * a := Rat.mul_le_mul_of_nonneg_left h1 hb
      have h5 : b * a < a * a := Rat.mul_lt_mul_of_pos_right h2 h3
      exact Rat.lt_irrefl (lt_le (le_lt h4 h5) h)
    · rw [h2]; exact Rat.le_refl
theorem castN (a : Nat) : ((a : Int) : Rat) = (a : Rat) := rfl
theorem natCast_mul' (a b : Nat) : ((a * b : Nat) : Rat) = (a : Rat) * (b : Rat) := by
  rw [← castN, ← castN, ← castN, Int.natCast_mul, Rat.intCast_mul]
theorem natCast_nonneg' (a : Nat) : (0 : Rat) ≤ (a : Rat) := by
  rw [← castN]; exact Rat.intCast_le_intCast.2 (Int.natCast_nonneg a)
/-- v times four to the k: what the whole numbers of parts are told of. -/
def upQ (v : Rat) (k : Nat) : Rat := v * ((4 ^ k : Nat) : Rat)
/-- R parts of two to the k. -/
def inQ (R k : Nat) : Rat := Rat.divInt (R : Int) ((2 ^ k : Nat) : Int)
theorem two_pos (k : Nat) : (0 : Rat) < ((2 ^ k : Nat) : Rat) := by
  have h : (0 : Int) < ((2 ^ k : Nat) : Int) := by have := Nat.two_pow_pos k; omega
  rw [← castN]; exact Rat.intCast_lt_intCast.2 h
theorem two_ne (k : Nat) : ((2 ^ k : Nat) : Rat) ≠ 0 := fun h => by
  have := two_pos k; rw [h] at this; exact Rat.lt_irrefl this
theorem inQ_eq (R k : Nat) : inQ R k * ((2 ^ k : Nat) : Rat) = (R : Rat) := by
  unfold inQ
  have h := two_ne k
  rw [← castN (2 ^ k), ← castN R, ← int1, ← int1, Rat.divInt_mul_divInt, Int.mul_one, Rat.divInt_eq_divInt_iff (by have := Nat.two_pow_pos k; omega) (by decide)]
  simp
theorem four_two (k : Nat) : ((4 ^ k : Nat) : Rat) = ((2 ^ k : Nat) : Rat) * ((2 ^ k : Nat) : Rat) := by
  rw [← natCast_mul', ← Nat.mul_pow]
theorem four_pos (k : Nat) : (0 : Rat) < ((4 ^ k : Nat) : Rat) := by rw [four_two]; exact Rat.mul_pos (two_pos k) (two_pos k)
theorem inQ_nonneg (R k : Nat) : 0 ≤ inQ R k := by
  have h : 0 * ((2 ^ k : Nat) : Rat) ≤ inQ R k * ((2 ^ k : Nat) : Rat) := by rw [inQ_eq, Rat.zero_mul]; exact natCast_nonneg' R
  exact Rat.le_of_mul_le_mul_right h (two_pos k)
/-- R parts squared, and v, both times four to the k. -/
theorem inQ_sq (R k : Nat) : upQ (inQ R k * inQ R k) k = ((R * R : Nat) : Rat) := by
  unfold upQ
  rw [four_two, natCast_mul', ← inQ_eq R k]
  grind
theorem upQ_le {a b : Rat} (k : Nat) : upQ a k ≤ upQ b k ↔ a ≤ b := by
  unfold upQ
  constructor
  · exact fun h => Rat.le_of_mul_le_mul_right h (four_pos k)
  · exact fun h => Rat.mul_le_mul_of_nonneg_right h (Rat.le_of_lt (four_pos k))
theorem upQ_nonneg {v : Rat} (hv : 0 ≤ v) (k : Nat) : 0 ≤ upQ v k := Rat.mul_nonneg hv (Rat.le_of_lt (four_pos k))
theorem floor_nn {v : Rat} (hv : 0 ≤ v) : 0 ≤ v.floor := Rat.le_floor_iff.2 (by simpa using hv)
theorem ceil_nn {v : Rat} (hv : 0 ≤ v) : 0 ≤ v.ceil := by
  have h := Rat.le_trans hv (@Rat.le_ceil v)
  have : ((0 : Int) : Rat) ≤ (v.ceil : Rat) := h
  exact Rat.intCast_le_intCast.1 this
/-- The greatest number of parts whose square is not above v. -/
def IsLow (v : Rat) (k R : Nat) : Prop := IsRoot (upQ v k).floor.natAbs R
/-- The least number of parts whose square is not below v. -/
def IsHigh (v : Rat) (k H : Nat) : Prop := ∃ R, IsRoot (upQ v k).ceil.natAbs R ∧ H = if R * R = (upQ v k).ceil.natAbs then R else R + 1
theorem IsLow.le {v : Rat} {k R : Nat} (hv : 0 ≤ v) (h : IsLow v k R) : inQ R k * inQ R k ≤ v := by
  rw [← upQ_le k, inQ_sq]
  have h1 : ((R * R : Nat) : Int) ≤ (upQ v k).floor := by have := h.1; have := floor_nn (upQ_nonneg hv k); omega
  rw [← castN]; exact Rat.le_floor_iff.1 h1
theorem IsHigh.ge {v : Rat} {k H : Nat} (hv : 0 ≤ v) (h : IsHigh v k H) : v ≤ inQ H k * inQ H k := by
  rw [← upQ_le k, inQ_sq]
  obtain ⟨R, h1, h2⟩ := h
  have h0 := ceil_nn (upQ_nonneg hv k)
  have h3 : (upQ v k).ceil ≤ ((H * H : Nat) : Int) := by
    split at h2
    · rename_i e; subst h2; omega
    · subst h2; have := h1.2; omega
  rw [← castN]; exact Rat.le_trans Rat.le_ceil (Rat.intCast_le_intCast.2 h3)
/-- A square's root lies between both. -/
theorem IsLow.root {q : Rat} {k R : Nat} (hq : 0 ≤ q) (h : IsLow (q * q) k R) : inQ R k ≤ q := sq_le hq (h.le (Rat.mul_nonneg hq hq))
theorem IsHigh.root {q : Rat} {k H : Nat} (hq : 0 ≤ q) (h : IsHigh (q * q) k H) : q ≤ inQ H k := sq_le (inQ_nonneg H k) (h.ge (Rat.mul_nonneg hq hq))
theorem upQ_up (v : Rat) (n m : Nat) : upQ v (n + m) = upQ (v * (((2 ^ m : Nat) : Rat) * ((2 ^ m : Nat) : Rat))) n := by
  unfold upQ
  rw [← four_two, Nat.pow_add, natCast_mul']; grind
theorem inQ_up (R n m : Nat) : inQ R (n + m) * ((2 ^ m : Nat) : Rat) = inQ R n := by
  have h1 := inQ_eq R (n + m)
  have h2 := inQ_eq R n
  rw [Nat.pow_add, natCast_mul'] at h1
  have h3 := two_ne n
  grind
end Go.Proofs.Ytmcijgnbdnpanaa
