/- The order of fractions: what the law RatOrder asks. -/
import Derived.Test.YtmcijgnbdnpanaaGreatRatM
namespace Go.Proofs.YtmcijgnbdnpanaaGreat

theorem cmpQ_swap (v u : Rat) : cmpQ u v = -cmpQ v u := by
  unfold cmpQ
  by_cases h1 : v < u <;> by_cases h2 : u < v <;> simp [h1, h2]
  exact absurd (Rat.le_of_lt h2) (Rat.not_le.2 h1)
theorem cmpQ_abs (v u : Rat) : -1 ≤ cmpQ v u ∧ cmpQ v u ≤ 1 := by
  unfold cmpQ; (repeat' split) <;> omega
theorem cmpQ_add (v u x : Rat) : cmpQ (v + x) (u + x) = cmpQ v u := by
  unfold cmpQ; simp only [Rat.add_lt_add_right]
theorem cmpQ_mul (v u : Rat) {x : Rat} (h : 0 < x) : cmpQ (v * x) (u * x) = cmpQ v u := by
  unfold cmpQ; simp only [Rat.mul_lt_mul_right h]
theorem cmpQ_le {v u : Rat} : cmpQ v u ≤ 0 ↔ v ≤ u := by
  unfold cmpQ
  rw [← Rat.not_lt]
  by_cases h1 : v < u
  · have h2 : ¬ u < v := fun h => absurd (Rat.le_of_lt h) (Rat.not_le.2 h1)
    simp [h1, h2]
  · by_cases h2 : u < v <;> simp [h1, h2]
theorem sgnQ_pos {v : Rat} : 0 < sgnQ v ↔ 0 < v := by
  unfold sgnQ
  by_cases h1 : v < 0
  · have : ¬ 0 < v := fun h => absurd (Rat.le_of_lt h) (Rat.not_le.2 h1)
    simp [h1, this]
  · by_cases h2 : v = 0
    · subst h2; simp [Rat.lt_irrefl]
    · have : 0 < v := Rat.lt_of_le_of_ne (Rat.not_lt.1 h1) (Ne.symm h2)
      simp [h1, h2, this]
theorem int1 (n : Int) : Rat.divInt n 1 = (n : Rat) := by
  have h : Rat.divInt n 1 = mkRat n 1 := Rat.divInt_ofNat n 1
  rw [h]
  apply Rat.ext
  · simp [Rat.num_mkRat]
  · simp [Rat.den_mkRat]
theorem floor_le' (v : Rat) : cmpQ (Rat.divInt v.floor 1) v ≤ 0 := by rw [int1]; exact cmpQ_le.2 (Rat.floor_le v)
theorem le_ceil' (v : Rat) : cmpQ v (Rat.divInt v.ceil 1) ≤ 0 := by rw [int1]; exact cmpQ_le.2 (Rat.le_ceil)
theorem gap (v : Rat) : v.ceil = v.floor ∨ v.ceil = v.floor + 1 := by
  have h1 := @Rat.ceil_lt v
  have h2 := @Rat.le_ceil v
  have h3 := Rat.floor_le v
  have h4 := Rat.lt_floor_add_one v
  have h5 : v.floor ≤ v.ceil := by
    have : ((v.floor : Int) : Rat) ≤ (v.ceil : Rat) := Rat.le_trans h3 h2
    exact Rat.intCast_le_intCast.1 this
  have h6 : v.ceil ≤ v.floor + 1 := by
    have : v ≤ ((v.floor + 1 : Int) : Rat) := Rat.le_of_lt h4
    exact Rat.ceil_le_iff.2 this
  omega
theorem gap_q (v : Rat) : (Rat.divInt v.ceil 1 - Rat.divInt v.floor 1 = 0) ∨ (Rat.divInt v.ceil 1 - Rat.divInt v.floor 1 = 1) := by
  rw [int1, int1]
  rcases gap v with h | h
  · left; rw [h]; exact Rat.sub_self
  · right; rw [h, Rat.intCast_add]; grind
theorem wrap_neg {K : Int} (h1 : -1 ≤ K) (h2 : K ≤ 1) : IntKind.i64.wrap (-(-K)) = K := by
  have : K = -1 ∨ K = 0 ∨ K = 1 := by omega
  rcases this with rfl | rfl | rfl <;> decide +kernel
end Go.Proofs.YtmcijgnbdnpanaaGreat
