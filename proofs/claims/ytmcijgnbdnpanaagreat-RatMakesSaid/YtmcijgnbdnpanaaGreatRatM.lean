/- Fractions: what their upper and lower numbers come to. -/
import Derived.Test.YtmcijgnbdnpanaaGreatZedFun
namespace Go.Proofs.YtmcijgnbdnpanaaGreat

/-- The lower number, 1 where it is 0. -/
def den1 (q : Nat) : Nat := if q = 0 then 1 else q
theorem den1_ne (q : Nat) : den1 q ≠ 0 := by unfold den1; split <;> omega
theorem den1_of {q : Nat} (h : q ≠ 0) : den1 q = q := by unfold den1; rw [if_neg h]
theorem den1_zero : den1 0 = 1 := rfl
theorem den1_lt {q k : Nat} (h : q < B64 ^ k) (hk : 1 ≤ k) : den1 q < B64 ^ k := by
  unfold den1; split
  · exact Nat.lt_of_lt_of_le (show 1 < B64 ^ 1 by decide) (Nat.pow_le_pow_right (by decide) hk)
  · exact h
theorem mk_num_den {p : Int} {q : Nat} (hq : q ≠ 0) : ∃ g : Nat, g ≠ 0 ∧ p = (mkRat p q).num * g ∧ q = (mkRat p q).den * g :=
  Rat.mkRat_num_den hq rfl
theorem mk_floor {p : Int} {q : Nat} (hq : q ≠ 0) : (mkRat p q).floor = p.fdiv (q : Int) := by
  obtain ⟨g, g0, h1, h2⟩ := mk_num_den (p := p) hq
  rw [Rat.floor_def, Int.fdiv_eq_ediv_of_nonneg _ (Int.natCast_nonneg q)]
  have e : p / (q : Int) = ((mkRat p q).num * (g : Int)) / (((mkRat p q).den : Int) * (g : Int)) := by
    conv => lhs; rw [h1]
    congr 1
    conv => lhs; rw [h2]
    simp
  rw [e, Int.mul_ediv_mul_of_pos_left _ _ (by omega)]
theorem mk_add {p r : Int} {q s : Nat} (hq : q ≠ 0) (hs : s ≠ 0) : mkRat p q + mkRat r s = mkRat (p * (s : Int) + r * (q : Int)) (q * s) := Rat.mkRat_add_mkRat p r hq hs
theorem mk_add_same {p r : Int} {q : Nat} (hq : q ≠ 0) : mkRat p q + mkRat r q = mkRat (p + r) q := by
  rw [Rat.mkRat_add_mkRat p r hq hq, ← Int.add_mul, Rat.mkRat_mul_right hq]
theorem mk_neg (p : Int) (q : Nat) : -mkRat p q = mkRat (-p) q := Rat.neg_mkRat p q
theorem mk_sub {p r : Int} {q s : Nat} (hq : q ≠ 0) (hs : s ≠ 0) : mkRat p q - mkRat r s = mkRat (p * (s : Int) - r * (q : Int)) (q * s) := by
  rw [Rat.sub_eq_add_neg, mk_neg, mk_add hq hs, Int.neg_mul, ← Int.sub_eq_add_neg]
theorem mk_sub_same {p r : Int} {q : Nat} (hq : q ≠ 0) : mkRat p q - mkRat r q = mkRat (p - r) q := by
  rw [Rat.sub_eq_add_neg, mk_neg, mk_add_same hq, ← Int.sub_eq_add_neg]
theorem mk_mul (p r : Int) (q s : Nat) : mkRat p q * mkRat r s = mkRat (p * r) (q * s) := Rat.mkRat_mul_mkRat p r q s
theorem mk_div (p r : Int) (q s : Nat) : mkRat p q / mkRat r s = Rat.divInt (p * (s : Int)) ((q : Int) * r) := by
  rw [Rat.div_def, ← Rat.divInt_ofNat, ← Rat.divInt_ofNat, Rat.inv_divInt, Rat.divInt_mul_divInt]
theorem mk_nonneg {p : Int} {q : Nat} (hq : q ≠ 0) : 0 ≤ mkRat p q ↔ 0 ≤ p := by
  rw [← Rat.divInt_ofNat]; exact Rat.divInt_nonneg_iff_of_pos_right (by omega)
theorem mk_le {p r : Int} {q s : Nat} (hq : q ≠ 0) (hs : s ≠ 0) : mkRat p q ≤ mkRat r s ↔ p * (s : Int) ≤ r * (q : Int) := by
  rw [Rat.le_iff_sub_nonneg, mk_sub hs hq, mk_nonneg (Nat.mul_ne_zero hs hq)]
  omega
theorem mk_lt {p r : Int} {q s : Nat} (hq : q ≠ 0) (hs : s ≠ 0) : mkRat p q < mkRat r s ↔ p * (s : Int) < r * (q : Int) := by
  rw [← Rat.not_le, mk_le hs hq]; omega
theorem mk_negv {p : Int} {q : Nat} (hq : q ≠ 0) : mkRat p q < 0 ↔ p < 0 := by
  rw [← Rat.not_le, mk_nonneg hq]; omega
theorem mk_zero {p : Int} {q : Nat} (hq : q ≠ 0) : mkRat p q = 0 ↔ p = 0 := Rat.mkRat_eq_zero hq
theorem num_neg_iff (v : Rat) : v.num < 0 ↔ v < 0 := by
  rw [← Rat.not_le, ← Rat.num_nonneg]; omega
/-- -1, 0 or 1: v is below u, is u, is above it. -/
def cmpQ (v u : Rat) : Int := if v < u then -1 else if u < v then 1 else 0
def sgnQ (v : Rat) : Int := if v < 0 then -1 else if v = 0 then 0 else 1
theorem cmpQ_self (v : Rat) : cmpQ v v = 0 := by simp [cmpQ, Rat.lt_irrefl]
theorem cmpQ_eq {v u : Rat} (h : v = u) : cmpQ v u = 0 := by rw [h, cmpQ_self]
theorem cmpQ_mk {p r : Int} {q s : Nat} (hq : q ≠ 0) (hs : s ≠ 0) : cmpQ (mkRat p q) (mkRat r s) = cmpZ (p * (s : Int)) (r * (q : Int)) := by
  unfold cmpQ cmpZ
  simp only [mk_lt hq hs, mk_lt hs hq]
theorem cmpQ_same {p r : Int} {q : Nat} (hq : q ≠ 0) : cmpQ (mkRat p q) (mkRat r q) = cmpZ p r := by
  rw [cmpQ_mk hq hq]
  have h : (0 : Int) < (q : Int) := by omega
  unfold cmpZ
  simp only [Int.mul_lt_mul_right h]
theorem sgnQ_mk {p : Int} {q : Nat} (hq : q ≠ 0) : sgnQ (mkRat p q) = sgn p := by
  unfold sgnQ sgn
  simp only [mk_negv hq, mk_zero hq]
theorem div_den {p q : Int} (hq : q ≠ 0) : (Rat.divInt p q).den = q.natAbs / Nat.gcd p.natAbs q.natAbs := by
  rw [Rat.den_divInt, if_neg hq, Int.gcd, Nat.gcd_comm]
theorem div_num {p q : Int} (hq : q ≠ 0) : (Rat.divInt p q).num.natAbs = p.natAbs / Nat.gcd p.natAbs q.natAbs := by
  rw [Rat.num_divInt, Int.gcd, Nat.gcd_comm q.natAbs]
  rw [Int.natAbs_ediv_of_dvd, Int.natAbs_mul, Int.natAbs_sign_of_ne_zero hq, Nat.one_mul, Int.natAbs_natCast]
  have h1 := Nat.gcd_dvd_left p.natAbs q.natAbs
  have h2 : ((Nat.gcd p.natAbs q.natAbs : Nat) : Int) ∣ p := Int.ofNat_dvd_left.2 h1
  exact Int.dvd_trans h2 (Int.dvd_mul_left _ _)
theorem div_mk {s t : Bool} {a b : Nat} : Rat.divInt (iv s a) (iv t b) = mkRat (iv (s != t) a) b := by
  rw [← Rat.divInt_ofNat]
  cases s <;> cases t <;> simp [iv, Rat.neg_divInt_neg]
  · rw [Rat.divInt_neg', Rat.divInt_ofNat]
theorem div_neg {s t : Bool} {a b : Nat} (hb : b ≠ 0) : decide ((Rat.divInt (iv s a) (iv t b)).num < 0) = ((s != t) && decide (0 < a / Nat.gcd a b)) := by
  have hg : 0 < Nat.gcd a b := Nat.gcd_pos_of_pos_right _ (by omega)
  have h2 : 0 < a / Nat.gcd a b ↔ 0 < a := by
    constructor
    · intro h; rcases Nat.eq_zero_or_pos a with h' | h'
      · subst h'; simp at h
      · exact h'
    · intro h; exact Nat.div_pos (Nat.gcd_le_left _ h) hg
  rw [Bool.eq_iff_iff, decide_eq_true_iff, num_neg_iff, div_mk, mk_negv hb, Bool.and_eq_true, decide_eq_true_iff, h2]
  cases s <;> cases t <;> simp [iv]
theorem mk_cond {p : Int} {q : Nat} (hq : q ≠ 0) (h : Nat.gcd p.natAbs q = 1) : (mkRat p q).num = p ∧ (mkRat p q).den = q := by
  have h1 := Rat.mk_eq_mkRat p q hq h
  rw [← h1]; exact ⟨rfl, rfl⟩
theorem bl_is0 (V : Nat) : (((bl V : Nat) : Int) == 0) = decide (V = 0) := by
  by_cases h : V = 0
  · subst h; rw [bl_zero]; rfl
  · have := bl_pos h
    rw [decide_eq_false h]; simp; omega
theorem bl_is1 (V : Nat) : (((bl V : Nat) : Int) == 1) = decide (V = 1) := by
  by_cases h : V = 1
  · subst h; rw [show bl 1 = 1 from bl_eq (k := 0) (by decide) (by decide)]; rfl
  · rw [decide_eq_false h]
    by_cases h0 : V = 0
    · subst h0; rw [bl_zero]; rfl
    · have h1 := bl_mono (show 2 ≤ V by omega)
      rw [show bl 2 = 2 from bl_eq (k := 1) (by decide) (by decide)] at h1
      simp; omega
end Go.Proofs.YtmcijgnbdnpanaaGreat
