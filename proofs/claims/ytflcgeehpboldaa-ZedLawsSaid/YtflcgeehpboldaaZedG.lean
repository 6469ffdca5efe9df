/- Structs that read as integers, and the calls of zed in these words. -/
import Derived.Test.YtflcgeehpboldaaZedF
namespace Go.Proofs.Ytflcgeehpboldaa
open Go.RowKit

/-- The struct of sign s and limbs at A reads as the integer v, which has k limbs at most. -/
def ZR (w : World) (s : Bool) (A : Option Addr) (n c : Nat) (v : Int) (k : Nat) : Prop :=
  ∃ l, Rd .u64 w A n l ∧ Lim B64 l ∧ iv s (val B64 l) = v ∧ n ≤ c ∧ n ≤ k ∧ v.natAbs < B64 ^ k

section
variable {w w' : World} {s : Bool} {A : Option Addr} {n c k : Nat} {v : Int}
theorem ZR.below (h : ZR w s A n c v k) (hb : Below w.heap.size w w') : ZR w' s A n c v k := by
  obtain ⟨l, h1, h2⟩ := h; exact ⟨l, h1.below hb, h2⟩
theorem ZR.drew (h : ZR w s A n c v k) : ZR w.drew s A n c v k := by
  obtain ⟨l, h1, h2⟩ := h; exact ⟨l, h1.drew, h2⟩
theorem ZR.drewN (h : ZR w s A n c v k) (q : Nat) : ZR (w.drewN q) s A n c v k := by
  obtain ⟨l, h1, h2⟩ := h; exact ⟨l, h1.drewN q, h2⟩
theorem ZR.of_rd {l : List Nat} (h : Rd .u64 w A n l) (hL : Lim B64 l) (hnc : n ≤ c) (hk : n ≤ k) : ZR w s A n c (iv s (val B64 l)) k :=
  ⟨l, h, hL, rfl, hnc, hk, by rw [iv_natAbs]; have := val_lt hL; rw [h.1] at this; exact Nat.lt_of_lt_of_le this (Nat.pow_le_pow_right (by decide) hk)⟩
theorem ZR.of_fr {Bb : Nat} (h : Fr .u64 82 w Bb A n c (limbs B64 v.natAbs)) (hnc : n ≤ c) (hk : v.natAbs < B64 ^ k) : ZR w (decide (v < 0)) A n c v k := by
  refine ⟨_, h.rd, lim_limbs B64_two _, ?_, hnc, ?_, hk⟩
  · rw [val_limbs B64_two]
    unfold iv
    by_cases hv : v < 0
    · simp [hv]; omega
    · simp [hv]; omega
  · rw [← h.1]; exact length_limbs_le B64_two hk
end

/-- The call tells the integer v, of k limbs at most; nothing that was there has changed. -/
def GivesZ (w : World) (v : Int) (k : Nat) (e : Ending) (w' : World) : Prop :=
  ∃ s A n c, e = .returned (.agg #[.bool s, .slice A n c]) ∧ ZR w' s A n c v k ∧ Below w.heap.size w w'
theorem GivesI.z {w : World} {v : Int} {k : Nat} (hk : v.natAbs < B64 ^ k) {e : Ending} {w' : World} (h : GivesI w v e w') : GivesZ w v k e w' := by
  obtain ⟨A, n, c, rfl, h1, h2, h3, h4⟩ := h
  exact ⟨_, A, n, c, rfl, ZR.of_fr h3 h1 hk, h4⟩

theorem pow_sum {k1 k2 k a b : Nat} (ha : a < B64 ^ k1) (hb : b < B64 ^ k2) (h1 : k1 + 1 ≤ k) (h2 : k2 + 1 ≤ k) : a + b < B64 ^ k := by
  have e1 := Nat.pow_le_pow_right (n := B64) (by decide) (show k1 ≤ k - 1 by omega)
  have e2 := Nat.pow_le_pow_right (n := B64) (by decide) (show k2 ≤ k - 1 by omega)
  have e3 : B64 ^ k = B64 ^ (k - 1) * B64 := by rw [← Nat.pow_succ]; congr 1; omega
  have e4 := Nat.mul_le_mul_left (B64 ^ (k - 1)) B64_two
  omega

section
variable {w : World} {s t : Bool} {A B : Option Addr} {n c m d k1 k2 : Nat} {v u : Int}
theorem zadd_zr (k : Nat) (X : ZR w s A n c v k1) (Y : ZR w t B m d u k2) (h1 : k1 + 1 ≤ k) (h2 : k2 + 1 ≤ k) (hk : k ≤ 1000) :
    Calls Try.prog 16 #[.agg #[.bool s, .slice A n c], .agg #[.bool t, .slice B m d]] w (GivesZ w (v + u) k) := by
  obtain ⟨la, a1, a2, rfl, a4, a5, a6⟩ := X
  obtain ⟨lb, b1, b2, rfl, b4, b5, b6⟩ := Y
  refine (zadd_any s t la lb A B n c m d w a1 b1 a2 b2 a4 b4 (by omega)).mono fun e w' h => h.z ?_
  have := pow_sum a6 b6 h1 h2
  omega
theorem zsub_zr (k : Nat) (X : ZR w s A n c v k1) (Y : ZR w t B m d u k2) (h1 : k1 + 1 ≤ k) (h2 : k2 + 1 ≤ k) (hk : k ≤ 1000) :
    Calls Try.prog 18 #[.agg #[.bool s, .slice A n c], .agg #[.bool t, .slice B m d]] w (GivesZ w (v - u) k) := by
  obtain ⟨la, a1, a2, rfl, a4, a5, a6⟩ := X
  obtain ⟨lb, b1, b2, rfl, b4, b5, b6⟩ := Y
  refine (zsub_any s t la lb A B n c m d w a1 b1 a2 b2 a4 b4 (by omega)).mono fun e w' h => h.z ?_
  have := pow_sum a6 b6 h1 h2
  omega
theorem zmul_zr (k : Nat) (X : ZR w s A n c v k1) (Y : ZR w t B m d u k2) (h1 : k1 + k2 ≤ k) (hk : k ≤ 1000) (h40 : k1 ≤ 40 ∨ k2 ≤ 40) :
    Calls Try.prog 20 #[.agg #[.bool s, .slice A n c], .agg #[.bool t, .slice B m d]] w (GivesZ w (v * u) k) := by
  obtain ⟨la, a1, a2, rfl, a4, a5, a6⟩ := X
  obtain ⟨lb, b1, b2, rfl, b4, b5, b6⟩ := Y
  have := zmul_any s t la lb A B n c m d w a1 b1 a2 b2 a4 b4 (by omega) (by omega)
  rw [iv_mul] at this
  refine this.mono fun e w' h => h.z ?_
  rw [Int.natAbs_mul]
  exact Nat.lt_of_lt_of_le (Nat.mul_lt_mul'' a6 b6) (by rw [← Nat.pow_add]; exact Nat.pow_le_pow_right (by decide) h1)
theorem zcmp_zr (X : ZR w s A n c v k1) (Y : ZR w t B m d u k2) (hk : k1 + k2 ≤ 2000) :
    Calls Try.prog 22 #[.agg #[.bool s, .slice A n c], .agg #[.bool t, .slice B m d]] w fun e w' => e = .returned (.int .i64 (cmpZ v u)) ∧ Below w.heap.size w w' := by
  obtain ⟨la, a1, a2, rfl, a4, a5, a6⟩ := X
  obtain ⟨lb, b1, b2, rfl, b4, b5, b6⟩ := Y
  exact zcmp_any s t la lb A B n c m d w a1 b1 a2 b2 a4 b4 (by unfold maxLen; omega) (by unfold maxLen; omega)
theorem cmpZ_self (v : Int) : cmpZ v v = 0 := by simp [cmpZ]
theorem zcmp_zr_eq (X : ZR w s A n c v k1) (Y : ZR w t B m d u k2) (hk : k1 + k2 ≤ 2000) (he : v = u) :
    Calls Try.prog 22 #[.agg #[.bool s, .slice A n c], .agg #[.bool t, .slice B m d]] w fun e w' => e = .returned (.int .i64 0) ∧ Below w.heap.size w w' := by
  have := zcmp_zr X Y hk
  rwa [he, cmpZ_self] at this
theorem sign_zr (X : ZR w s A n c v k1) (hk : k1 ≤ 1000) :
    Calls Try.prog 24 #[.agg #[.bool s, .slice A n c]] w fun e w' => e = .returned (.int .i64 (sgn v)) ∧ Below w.heap.size w w' := by
  obtain ⟨la, a1, a2, rfl, a4, a5, a6⟩ := X
  exact sign_any s la A n c w a1 a2 (by unfold maxLen; omega) a4
theorem small_zr (X : ZR w s A n c v k1) (hk : k1 ≤ 1000) (hf : fitsB v = true) :
    Calls Try.prog 33 #[.agg #[.bool s, .slice A n c]] w fun e w' => e = .returned (.tuple #[.int .i64 v, .bool true]) ∧ Below w.heap.size w w' := by
  obtain ⟨la, a1, a2, rfl, a4, a5, a6⟩ := X
  have := small_any s la A n c w a1 a2 (by omega) a4
  rwa [smallV_t hf, hf] at this
theorem ztext_zr (X : ZR w s A n c v k1) (hk : k1 ≤ 16) :
    Calls Try.prog 35 #[.agg #[.bool s, .slice A n c]] w fun e w' => e = .returned (.string ⟨(ztxt v).toArray⟩) ∧ Below w.heap.size w w' := by
  obtain ⟨la, a1, a2, rfl, a4, a5, a6⟩ := X
  exact ztext_small s la A n c w a1 a2 (by omega) a4
theorem zof_zr (v : Int) (h1 : -9223372036854775808 ≤ v) (h2 : v < 9223372036854775808) (w : World) : Calls Try.prog 37 #[.int .i64 v] w (GivesZ w v 1) :=
  (zof_any v h1 h2 w).mono fun e w' h => h.z (by rw [Nat.pow_one]; unfold B64; omega)
end

theorem fdiv_alike (s : Bool) (a b : Nat) : iv false (a / b) = (iv s a).fdiv (iv s b) ∧ iv s (a % b) = (iv s a).fmod (iv s b) := by
  cases s
  · simp only [iv, Bool.false_eq_true, if_false]
    exact ⟨by rw [Int.fdiv_eq_ediv_of_nonneg _ (by omega)]; rfl, by rw [Int.fmod_eq_emod_of_nonneg _ (by omega)]; rfl⟩
  · simp only [iv, if_true, Bool.false_eq_true, if_false]
    exact ⟨by rw [Int.neg_fdiv_neg, Int.fdiv_eq_ediv_of_nonneg _ (by omega)]; rfl, by rw [Int.neg_fmod_neg, Int.fmod_eq_emod_of_nonneg _ (by omega)]; rfl⟩
theorem fdiv_unlike_pos {a b q r : Nat} (h : (r : Int) + b * (-(q : Int)) = -(a : Int)) (hr : r < b) : -(q : Int) = (-(a : Int)).fdiv b ∧ (r : Int) = (-(a : Int)).fmod b := by
  have := (Int.ediv_emod_unique (a := -(a : Int)) (b := b) (r := r) (q := -(q : Int)) (by omega)).2 ⟨h, by omega, by omega⟩
  rw [Int.fdiv_eq_ediv_of_nonneg _ (by omega), Int.fmod_eq_emod_of_nonneg _ (by omega)]
  exact ⟨this.1.symm, this.2.symm⟩
theorem fdiv_unlike {s : Bool} {a b q r : Nat} (h : (r : Int) + b * (-(q : Int)) = -(a : Int)) (hr : r < b) : iv true q = (iv s a).fdiv (iv (!s) b) ∧ iv (!s) r = (iv s a).fmod (iv (!s) b) := by
  have := fdiv_unlike_pos h hr
  cases s
  · simp only [iv, Bool.not_false, if_true, Bool.false_eq_true, if_false]
    have e1 := Int.neg_fdiv_neg (-(a : Int)) b
    have e2 := Int.neg_fmod_neg (-(a : Int)) b
    rw [Int.neg_neg] at e1 e2
    rw [e1, e2, ← this.1, ← this.2]
    exact ⟨rfl, rfl⟩
  · simp only [iv, Bool.not_true, if_true, Bool.false_eq_true, if_false]
    exact this

/-- The call tells the integers q and r, and no error. -/
def GivesZQ (w : World) (q r : Int) (k1 k2 : Nat) (e : Ending) (w' : World) : Prop :=
  ∃ s A n c t B m d, e = .returned (.tuple #[.agg #[.bool s, .slice A n c], .agg #[.bool t, .slice B m d], .int .i64 0]) ∧ ZR w' s A n c q k1 ∧ ZR w' t B m d r k2 ∧ Below w.heap.size w w' ∧ s = decide (q < 0) ∧ Rd .u64 w' A n (limbs B64 q.natAbs) ∧ n ≤ maxLen
theorem GivesQZ.z {w : World} {q r : Int} {k1 k2 : Nat} (h1 : q.natAbs < B64 ^ k1) (h2 : r.natAbs < B64 ^ k2) {e : Ending} {w' : World} (h : GivesQZ w q r e w') : GivesZQ w q r k1 k2 e w' := by
  obtain ⟨A, n, c, A', n', c', rfl, p1, p2, p3, p4, p5, p6, p7⟩ := h
  exact ⟨_, A, n, c, _, A', n', c', rfl, ZR.of_fr p5 p1 h1, ZR.of_fr p6 p3 h2, p7, rfl, p5.rd, Nat.le_trans p1 p2⟩

theorem dm_limb (la lb : List Nat) (A B : Option Addr) (n c m d : Nat) (La : Lim B64 la) (Lb : Lim B64 lb) (hn0 : n ≤ 35184372088832) (hm0 : m ≤ 35184372088832)
    (hnc : n ≤ c) (hmd : m ≤ d) (hb0 : val B64 lb ≠ 0) (hbB : val B64 lb < B64) :
    ∀ W : World, Rd .u64 W A n la → Rd .u64 W B m lb → Calls Try.prog 55 #[.slice A n c, .slice B m d] W (GivesQR W (limbs B64 (val B64 la / val B64 lb)) (limbs B64 (val B64 la % val B64 lb))) := by
  intro W ha hb
  rcases Nat.lt_or_ge (val B64 la) (val B64 lb) with h | h
  · rw [Nat.div_eq_of_lt h, Nat.mod_eq_of_lt h, limbs_zero]
    exact divmod_below la lb A B n c m d W ha hb La Lb hn0 hm0 hnc hmd h
  · exact divmod_limb la lb A B n c m d W ha hb La Lb hn0 hm0 hnc hmd h hb0 hbB

theorem rest_up {a b Q R : Nat} (h : b * Q + R = a) (hR : R ≤ b) : ((b - R : Nat) : Int) + b * (-((Q + 1 : Nat) : Int)) = -(a : Int) := by
  subst h
  have e1 : ((b - R : Nat) : Int) = (b : Int) - R := by omega
  have e2 : (b : Int) * (-((Q + 1 : Nat) : Int)) = -((b * Q : Nat) : Int) - b := by
    rw [Int.natCast_add, Int.mul_neg, Int.mul_add, Int.natCast_mul, Int.neg_add]
    simp
    rfl
  rw [e1, e2]
  omega
theorem zdm_zr {w : World} {s t : Bool} {A B : Option Addr} {n c m d k1 k2 : Nat} {v u : Int} (k : Nat) (X : ZR w s A n c v k1) (Y : ZR w t B m d u k2) (hu : u ≠ 0) (hk0 : 1 ≤ k1) (hk : k1 + 1 ≤ k) (hk1 : k ≤ 1000) (hk2 : k2 ≤ 1000) (huB : u.natAbs < B64) :
    Calls Try.prog 29 #[.agg #[.bool s, .slice A n c], .agg #[.bool t, .slice B m d]] w (GivesZQ w (v.fdiv u) (v.fmod u) k k2) := by
  obtain ⟨la, a1, a2, rfl, a4, a5, a6⟩ := X
  obtain ⟨lb, b1, b2, rfl, b4, b5, b6⟩ := Y
  rw [iv_natAbs] at a6 b6 huB
  have hb0 : val B64 lb ≠ 0 := fun h => hu (by rw [h]; cases t <;> rfl)
  have hdm := dm_limb la lb A B n c m d a2 b2 (by omega) (by omega) a4 b4 hb0 huB
  have hr := Nat.mod_lt (val B64 la) (show val B64 lb > 0 by omega)
  have hq := Nat.div_le_self (val B64 la) (val B64 lb)
  have h1 : 1 < B64 ^ k1 := Nat.lt_of_lt_of_le (show 1 < B64 ^ 1 by decide) (Nat.pow_le_pow_right (by decide) hk0)
  have hq1 := pow_sum a6 h1 hk hk
  by_cases hst : t = s
  · subst hst
    refine (zdm_alike t la lb A B n c m d w a1 b1 hdm).mono fun e w' h => ?_
    rw [(fdiv_alike t _ _).1, (fdiv_alike t _ _).2] at h
    refine h.z ?_ ?_
    · rw [← (fdiv_alike t _ _).1, iv_natAbs]; omega
    · rw [← (fdiv_alike t _ _).2, iv_natAbs]; omega
  · have ht : t = !s := by cases s <;> cases t <;> simp_all
    subst ht
    have hdiv := Nat.div_add_mod (val B64 la) (val B64 lb)
    by_cases hr0 : val B64 la % val B64 lb = 0
    · refine (zdm_whole s la lb A B n c m d w a1 b1 hdm hr0).mono fun e w' h => ?_
      have hf := fdiv_unlike (s := s) (a := val B64 la) (b := val B64 lb) (q := val B64 la / val B64 lb) (r := val B64 la % val B64 lb) (by
        rw [hr0, Nat.add_zero] at hdiv
        rw [hr0, Int.mul_neg, ← Int.natCast_mul, hdiv]; simp) hr
      rw [hf.1, hf.2] at h
      refine h.z ?_ ?_
      · rw [← hf.1, iv_natAbs]; omega
      · rw [← hf.2, iv_natAbs]; omega
    · refine (zdm_rest s la lb A B n c m d w a1 b1 hdm a2 b2 b4 (by omega) (by omega) hb0 hr0).mono fun e w' h => ?_
      have hf := fdiv_unlike (s := s) (a := val B64 la) (b := val B64 lb) (q := val B64 la / val B64 lb + 1) (r := val B64 lb - val B64 la % val B64 lb) (by
        exact rest_up hdiv (by omega)) (by omega)
      rw [hf.1, hf.2] at h
      refine h.z ?_ ?_
      · rw [← hf.1, iv_natAbs]; omega
      · rw [← hf.2, iv_natAbs]; omega

theorem zgood_good (v : Int) (A : Option Addr) (n c : Nat) (w : World) (h : Rd .u64 w A n (limbs B64 v.natAbs)) (hn : n ≤ maxLen) :
    Calls Try.prog 28 #[.agg #[.bool (decide (v < 0)), .slice A n c]] w fun e w' => e = .returned (.bool true) ∧ Below w.heap.size w w' := by
  have h1 : goodB (limbs B64 v.natAbs) = true := by
    unfold goodB
    have := limbs_last B64_two v.natAbs
    simpa using this
  have h2 : goodZ (decide (v < 0)) (limbs B64 v.natAbs) = true := by
    unfold goodZ
    rw [h1]
    by_cases hv : v < 0
    · have : (limbs B64 v.natAbs).length ≠ 0 := by rw [limbs_pos B64_two (by omega)]; simp
      simp [this]
    · simp [hv]
  have := zgood_any (decide (v < 0)) _ A n c w h hn
  rwa [h2] at this
end Go.Proofs.Ytflcgeehpboldaa
