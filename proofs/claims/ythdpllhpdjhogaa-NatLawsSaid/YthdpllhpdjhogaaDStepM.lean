/- The mathematics of a long division's step. -/
import Derived.Test.YthdpllhpdjhogaaTakeP
namespace Go.Proofs.Ythdpllhpdjhogaa
open Go.RowKit

/-- The three highest limbs of n + 1. -/
theorem split3 {l : List Nat} {n u2 u1 u0 : Nat} (hl : l.length = n + 2 + 1) (h2 : l[n + 2]? = some u2) (h1 : l[n + 1]? = some u1) (h0 : l[n]? = some u0) :
    val B64 l = val B64 (l.take n) + B64 ^ n * ((u2 * B64 + u1) * B64 + u0) := by
  have e : val B64 l = val B64 (l.take (n + 2 + 1)) := by rw [List.take_of_length_le (by omega)]
  rw [e, val_take_succ h2, show n + 2 = n + 1 + 1 from rfl, val_take_succ h1, val_take_succ h0, Nat.pow_succ, Nat.pow_succ]
  grind
theorem split2 {l : List Nat} {n v1 v0 : Nat} (hl : l.length = n + 2) (h1 : l[n + 1]? = some v1) (h0 : l[n]? = some v0) :
    val B64 l = val B64 (l.take n) + B64 ^ n * (v1 * B64 + v0) := by
  have e : val B64 l = val B64 (l.take (n + 1 + 1)) := by rw [List.take_of_length_le (by omega)]
  rw [e, val_take_succ h1, val_take_succ h0, Nat.pow_succ]
  grind
theorem take_lt {l : List Nat} (h : Lim B64 l) {n : Nat} (hn : n ≤ l.length) : val B64 (l.take n) < B64 ^ n := by
  have := val_lt (h.take n)
  rwa [List.length_take, Nat.min_eq_left hn] at this
/-- The highest limb of what is below B times V is not above V's. -/
theorem top_le {L M P W Y u2 v1 u v : Nat} (hM : M < P) (h : L + P * W < B64 * (M + P * Y)) (hW : W = (u2 * B64 + u) * B64 + v) (hY : ∃ y, y < B64 ∧ Y = v1 * B64 + y) : u2 ≤ v1 := by
  obtain ⟨y, hy, rfl⟩ := hY
  rcases Nat.lt_or_ge v1 u2 with hlt | hge
  · exfalso
    subst hW
    have a1 : (v1 + 1) * B64 ≤ u2 * B64 := Nat.mul_le_mul_right _ hlt
    have a2 : v1 * B64 + y + 1 ≤ u2 * B64 := by rw [Nat.succ_mul] at a1; omega
    have a3 : P * ((v1 * B64 + y + 1) * B64) ≤ P * ((u2 * B64) * B64) := Nat.mul_le_mul_left _ (Nat.mul_le_mul_right _ a2)
    have a4 : P * ((u2 * B64) * B64) ≤ P * ((u2 * B64 + u) * B64 + v) := Nat.mul_le_mul_left _ (by rw [Nat.add_mul (u2 * B64)]; omega)
    have a5 : B64 * (M + P * (v1 * B64 + y)) = B64 * M + P * ((v1 * B64 + y) * B64) := by grind
    have a6 : P * ((v1 * B64 + y + 1) * B64) = P * ((v1 * B64 + y) * B64) + B64 * P := by grind
    have a7 : B64 * M ≤ B64 * P := Nat.mul_le_mul_left _ (by omega)
    omega
  · exact hge
/-- What divideStep leaves: the guess was right, or one too great. -/
theorem step_right {U V q p T y : Nat} (hq : q = U / V ∨ q = U / V + 1) (hV : 0 < V) (h : p + V * q = U + T * y) (hy : y = 0) : q = U / V ∧ p = U % V := by
  subst hy
  have hd := Nat.div_add_mod U V
  have hm := Nat.mod_lt U hV
  rcases hq with rfl | rfl
  · exact ⟨rfl, by omega⟩
  · rw [Nat.mul_add] at h; omega
theorem step_great {U V q p T y : Nat} (hq : q = U / V ∨ q = U / V + 1) (hV : 0 < V) (hVT : V ≤ T) (hpT : p < T) (h : p + V * q = U + T * y) (hy1 : y ≤ 1) (hy : y ≠ 0) : 0 < q ∧ q - 1 = U / V ∧ (p + V) % T = U % V := by
  obtain rfl : y = 1 := by omega
  have hd := Nat.div_add_mod U V
  have hm := Nat.mod_lt U hV
  rcases hq with rfl | rfl
  · omega
  · refine ⟨Nat.succ_pos _, Nat.add_sub_cancel _ _, ?_⟩
    rw [Nat.mul_add] at h
    have e : p + V = U % V + T := by omega
    rw [e, Nat.add_mod_right, Nat.mod_eq_of_lt (by omega)]
/-- One round of the long division. -/
theorem long_step {A V vQ vR lo U p P B : Nat} (hA : A = vQ * (P * B) * V + vR) (hR : vR = lo + P * U) (hlo : lo < P) (hp : p = U % V) (hV : 0 < V) :
    A = (U / V + B * vQ) * P * V + (lo + P * p) ∧ lo + P * p < P * V := by
  have hd := Nat.div_add_mod U V
  have hm := Nat.mod_lt U hV
  subst hp
  constructor
  · rw [hA, hR]
    conv => lhs; rw [← hd]
    generalize U / V = q
    generalize U % V = r
    grind
  · have : P * (U % V + 1) ≤ P * V := Nat.mul_le_mul_left _ hm
    rw [Nat.mul_add] at this
    omega
end Go.Proofs.Ythdpllhpdjhogaa
