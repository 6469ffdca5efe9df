/- nat.DivMod of any two numbers, the second one not 0. -/
import Derived.Test.YthdpllhpdjhogaaDLong
namespace Go.Proofs.Ythdpllhpdjhogaa
open Go.RowKit

set_option maxRecDepth 100000 in
set_option maxHeartbeats 1000000 in
theorem divmod_long (la lb : List Nat) (A B : Option Addr) (n c m d : Nat) (w : World) (ha : Rd .u64 w A n la) (hb : Rd .u64 w B m lb) (La : Lim B64 la) (Lb : Lim B64 lb) (hn0 : n ≤ 35184372088830) (hm0 : m ≤ 35184372088832)
    (hnc : n ≤ c) (hmd : m ≤ d) (hle : val B64 lb ≤ val B64 la) (hbB : B64 ≤ val B64 lb) :
    Calls Try.prog 24 #[.slice A n c, .slice B m d] w (GivesQR w (limbs B64 (val B64 la / val B64 lb)) (limbs B64 (val B64 la % val B64 lb))) := by
  have HN : Hid (n ≤ maxLen ∧ m ≤ maxLen) := ⟨by unfold maxLen; omega, by unfold maxLen; omega⟩
  have HN0 := Lib.hid hn0
  have HC : 0 ≤ cmpN (val B64 la) (val B64 lb) := by
    rcases Nat.lt_or_eq_of_le hle with h | h
    · rw [cmpN_gt h]; omega
    · rw [cmpN_eq h.symm]; omega
  have hmono := length_limbs_mono B64_two hle
  have hlen2 : 2 ≤ (limbs B64 (val B64 lb)).length := by
    rcases Nat.lt_or_ge (limbs B64 (val B64 lb)).length 2 with h | h
    · have h1 := lt_pow_limbs B64_two (val B64 lb)
      have h2 : B64 ^ (limbs B64 (val B64 lb)).length ≤ B64 ^ 1 := Nat.pow_le_pow_right (by decide) (by omega)
      rw [Nat.pow_one] at h2
      omega
    · exact h
  have hlast := limbs_last B64_two (val B64 lb)
  generalize hX : limbs B64 (val B64 la) = xs at hmono
  have LX : Lim B64 xs := by rw [← hX]; exact lim_limbs B64_two _
  generalize hY : limbs B64 (val B64 lb) = ys at hmono hlen2 hlast
  have LY : Lim B64 ys := by rw [← hY]; exact lim_limbs B64_two _
  have hvx : val B64 xs = val B64 la := by rw [← hX, val_limbs B64_two]
  have hvy : val B64 ys = val B64 lb := by rw [← hY, val_limbs B64_two]
  rw [← hvx, ← hvy] at HC
  have HX := Lib.hid hX
  have HY := Lib.hid hY
  have HVX := Lib.hid hvx
  have HVY := Lib.hid hvy
  have HMO := Lib.hid hmono
  have HL2 := Lib.hid hlen2
  have HLA := Lib.hid hlast
  clear hX hY hvx hvy hle hbB hn0 hm0 hmono hlen2 hlast
  go_enter Try.func24, Try.ntmps24
  go_wp2_with (first
    | (go_at_call 43; (with_reducible refine (trim_any la A n c w ha La HN.out.1 hnc).mono ?_); rintro e w' ⟨⟨k, hk, rfl, hka⟩, rfl⟩; rw [HX.out] at hka)
    | (go_at_call 43; (with_reducible refine (trim_any lb B m d w hb Lb HN.out.2 hmd).mono ?_); rintro e w' ⟨⟨k2, hk2, rfl, hkb⟩, rfl⟩; rw [HY.out] at hkb
       have hkz : ((k2 : Int) == 0) = false := by (have := hkb.1; have := HL2.out; simp; omega)
       have hk1 : ((k2 : Int) == 1) = false := by (have := hkb.1; have := HL2.out; simp; omega))
    | (go_at_call 21; refine (cmp_any xs ys A B k c k2 d w hka hkb LX LY (by have := HN.out.1; omega) (by have := HN.out.2; omega) (by omega) (by omega)).mono ?_; rintro e w' ⟨rfl, q, rfl⟩)
    | (go_at_call 52
       refine (divideLong_any xs ys A B k c k2 d _ (hka.drewN q) (hkb.drewN q) LX LY (by have := HN0.out; omega) (by have := HL2.out; have := hkb.1; omega) (by have := HMO.out; have := hka.1; have := hkb.1; omega) ?_).mono ?_
       · intro x hx h0
         refine HLA.out ?_
         rw [List.getLast?_eq_getElem?, hkb.1, hx, h0]
       rintro e w2 ⟨A1, n1, c1, A2, n2, c2, rfl, p1, p2, p3, p4, p5, p6, p7⟩))
  go_ret3
  rw [HVX.out, HVY.out] at p5 p6
  have hz : (w.drewN q).heap.size = w.heap.size := rfl
  rw [hz] at p5 p6 p7
  exact ⟨_, _, _, _, _, _, rfl, p1, p2, p3, p4, p5, p6, (below_drawn (Below.refl _ _) q).trans p7⟩

/-- The quotient and the rest by any number but 0. -/
theorem divmod_any (la lb : List Nat) (A B : Option Addr) (n c m d : Nat) (w : World) (ha : Rd .u64 w A n la) (hb : Rd .u64 w B m lb) (La : Lim B64 la) (Lb : Lim B64 lb) (hn0 : n ≤ 35184372088830) (hm0 : m ≤ 35184372088830)
    (hnc : n ≤ c) (hmd : m ≤ d) (hb0 : val B64 lb ≠ 0) :
    Calls Try.prog 24 #[.slice A n c, .slice B m d] w (GivesQR w (limbs B64 (val B64 la / val B64 lb)) (limbs B64 (val B64 la % val B64 lb))) := by
  rcases Nat.lt_or_ge (val B64 la) (val B64 lb) with h | h
  · rw [Nat.div_eq_of_lt h, Nat.mod_eq_of_lt h, limbs_zero]
    exact divmod_below la lb A B n c m d w ha hb La Lb (by omega) (by omega) hnc hmd h
  · rcases Nat.lt_or_ge (val B64 lb) B64 with h2 | h2
    · exact divmod_limb la lb A B n c m d w ha hb La Lb (by omega) (by omega) hnc hmd h hb0 h2
    · exact divmod_long la lb A B n c m d w ha hb La Lb hn0 (by omega) hnc hmd h h2
end Go.Proofs.Ythdpllhpdjhogaa
