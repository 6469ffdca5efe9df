/- The law ZedSmalls, put together. -/
import Derived.Test.YtflcgeehpboldaaZedS
namespace Go.Proofs.Ytflcgeehpboldaa
open Go.RowKit

theorem cmpZ_cases (x y : Int) : (x < y ∧ cmpZ x y = -1) ∨ (y < x ∧ cmpZ x y = 1) ∨ (x = y ∧ cmpZ x y = 0) := by
  unfold cmpZ
  by_cases h1 : x < y
  · exact .inl ⟨h1, if_pos h1⟩
  · by_cases h2 : y < x
    · exact .inr (.inl ⟨h2, by rw [if_neg h1, if_pos h2]⟩)
    · exact .inr (.inr ⟨by omega, by rw [if_neg h1, if_neg h2]⟩)
theorem tdiv_bound {x y : Int} (x1 : -2147483648 ≤ x) (x2 : x < 2147483648) : -2147483648 ≤ x.tdiv y ∧ x.tdiv y ≤ 2147483648 := by
  have := Int.natAbs_tdiv_le_natAbs x y
  omega

theorem law_smalls (x y : Int) (w : World) (x1 : -2147483648 ≤ x) (x2 : x < 2147483648) (y1 : -2147483648 ≤ y) (y2 : y < 2147483648) :
    Calls Try.prog 8 #[.int .i32 x, .int .i32 y] w fun e w' => e = .returned (.bool true) ∧ Below w.heap.size w w' := by
  by_cases hy0 : y = 0
  · subst hy0
    exact sm_zero x w x1 x2 _ rfl (cmpZ_cases x 0)
  · obtain ⟨d1, d2⟩ := tdiv_bound (y := y) x1 x2
    have hf := Int.fdiv_eq_tdiv (a := x) (b := y)
    have hsg : (0 < y → y.sign = 1) ∧ (y < 0 → y.sign = -1) := ⟨Int.sign_eq_one_of_pos, Int.sign_eq_neg_one_of_neg⟩
    have hm := Int.fmod_def x y
    have ht := Int.tmod_def x y
    have hq : x.fdiv y = x.tdiv y ∨ x.fdiv y = x.tdiv y - 1 := by
      rw [hf]; (repeat' split) <;> omega
    have hqb : -2147483649 ≤ x.fdiv y ∧ x.fdiv y ≤ 2147483648 := by omega
    have hpb : ((x.fdiv y) * y).natAbs ≤ 2147483649 * 2147483648 := by
      rw [Int.natAbs_mul]; exact Nat.mul_le_mul (by omega) (by omega)
    have hqf : fitsB (x.fdiv y) = true := by simp [fitsB]; omega
    have hrb : -4611686020574871553 - 2147483649 ≤ x.fmod y ∧ x.fmod y ≤ 4611686020574871553 + 2147483649 := by
      rw [hm, Int.mul_comm]; omega
    have hrf : fitsB (x.fmod y) = true := by simp [fitsB]; omega
    have hE : wrap64 (x.fdiv y * y) = x.fdiv y * y := w64 (by omega) (by omega)
    have hR : wrap64 (x - x.fdiv y * y) = x.fmod y := by
      rw [hm, Int.mul_comm y]; exact w64 (by omega) (by omega)
    by_cases hc : ((x.tmod y != 0) && (!decide (x < 0) == decide (y < 0))) = true
    · rw [Bool.and_eq_true] at hc
      have hdv : ¬ y ∣ x := by
        intro h
        have := Int.tmod_eq_zero_of_dvd h
        rw [this] at hc
        simp at hc
      have hD : x.fdiv y = x.tdiv y - 1 := by
        rw [hf, if_neg hdv]
        have h2 := hc.2
        by_cases hx : x < 0 <;> by_cases hy : y < 0 <;> simp [hx, hy] at h2
        · rw [if_neg (by omega), if_pos (by omega), hsg.1 (by omega)]
        · rw [if_pos (by omega), if_neg (by omega)]
      exact sm_b x y w x1 x2 y1 y2 hy0 _ (x.fdiv y) (x.fmod y) (x.tdiv y) (x.fdiv y * y) rfl (cmpZ_cases x y) rfl rfl hqf hrf rfl (w64 (by omega) (by omega)) hE hR (by rw [hD]; exact w64 (by omega) (by omega)) hc.1 hc.2
    · have hc' : ((x.tmod y != 0) && (!decide (x < 0) == decide (y < 0))) = false := by simpa using hc
      have hD : x.tdiv y = x.fdiv y := by
        rw [hf]
        by_cases hdv : y ∣ x
        · rw [if_pos hdv]; simp
        · rw [if_neg hdv]
          have h1 : (x.tmod y != 0) = true := by
            simp only [bne_iff_ne, ne_eq]
            exact fun h => hdv (Int.dvd_of_tmod_eq_zero h)
          rw [h1, Bool.true_and] at hc'
          by_cases hx : x < 0 <;> by_cases hy : y < 0 <;> simp [hx, hy] at hc'
          · rw [if_neg (by omega), if_neg (by omega), hsg.2 (by omega)]; omega
          · rw [if_pos (by omega), if_pos (by omega)]; omega
      exact sm_a x y w x1 x2 y1 y2 hy0 _ (x.fdiv y) (x.fmod y) (x.fdiv y * y) rfl (cmpZ_cases x y) rfl rfl hqf hrf hD (w64 (by omega) (by omega)) hE hR hc'
end Go.Proofs.Ytflcgeehpboldaa
