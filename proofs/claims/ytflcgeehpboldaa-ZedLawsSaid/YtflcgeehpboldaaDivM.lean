/- nat.DivMod by 0, by a greater number, by a number of one limb. -/
import Derived.Test.YtflcgeehpboldaaDivC
import Derived.Test.YtflcgeehpboldaaAdd
namespace Go.Proofs.Ytflcgeehpboldaa
open Go.RowKit

/-- Two slices of the call's own, the numbers lq and lr, and no error. -/
def GivesQR (w : World) (lq lr : List Nat) (e : Ending) (w' : World) : Prop :=
  ∃ A n c A' n' c', e = .returned (.tuple #[.slice A n c, .slice A' n' c', .int .i64 0]) ∧ n ≤ c ∧ c ≤ maxLen ∧ n' ≤ c' ∧ c' ≤ maxLen ∧
    Fr .u64 82 w' w.heap.size A n c lq ∧ Fr .u64 82 w' w.heap.size A' n' c' lr ∧ Below w.heap.size w w'

set_option maxRecDepth 100000 in
theorem divmod_zero (la lb : List Nat) (A B : Option Addr) (n c m d : Nat) (w : World) (ha : Rd .u64 w A n la) (hb : Rd .u64 w B m lb) (La : Lim B64 la) (Lb : Lim B64 lb) (hn0 : n ≤ 35184372088832) (hm0 : m ≤ 35184372088832)
    (hnc : n ≤ c) (hmd : m ≤ d) (h0 : val B64 lb = 0) :
    Calls Try.prog 55 #[.slice A n c, .slice B m d] w fun e w' => e = .returned (.tuple #[.slice none 0 0, .slice none 0 0, .int .i64 12]) ∧ w = w' := by
  have HN : Hid (n ≤ maxLen ∧ m ≤ maxLen) := ⟨by unfold maxLen; omega, by unfold maxLen; omega⟩
  have HY : Hid (limbs B64 (val B64 lb) = []) := by show _ = _; rw [h0, limbs_zero]
  clear hn0 hm0 h0
  go_enter Try.func55, Try.ntmps55
  go_wp2_with (first
    | (go_at_call 66; (with_reducible refine (trim_any la A n c w ha La HN.out.1 hnc).mono ?_); rintro e w' ⟨⟨k, hk, rfl, hka⟩, rfl⟩)
    | (go_at_call 66; (with_reducible refine (trim_any lb B m d w hb Lb HN.out.2 hmd).mono ?_); rintro e w' ⟨⟨k2, hk2, rfl, hkb⟩, rfl⟩; rw [HY.out] at hkb; obtain rfl : k2 = 0 := hkb.1.symm))
  go_ret3
  exact ⟨rfl, rfl⟩

set_option maxRecDepth 100000 in
theorem divmod_below (la lb : List Nat) (A B : Option Addr) (n c m d : Nat) (w : World) (ha : Rd .u64 w A n la) (hb : Rd .u64 w B m lb) (La : Lim B64 la) (Lb : Lim B64 lb) (hn0 : n ≤ 35184372088832) (hm0 : m ≤ 35184372088832)
    (hnc : n ≤ c) (hmd : m ≤ d) (hlt : val B64 la < val B64 lb) :
    Calls Try.prog 55 #[.slice A n c, .slice B m d] w (GivesQR w [] (limbs B64 (val B64 la))) := by
  have HN : Hid (n ≤ maxLen ∧ m ≤ maxLen) := ⟨by unfold maxLen; omega, by unfold maxLen; omega⟩
  have HN0 := Lib.hid hn0
  have HC : cmpN (val B64 la) (val B64 lb) = -1 := cmpN_lt hlt
  have hb0 : val B64 lb ≠ 0 := by omega
  generalize hX : limbs B64 (val B64 la) = xs
  have LX : Lim B64 xs := by rw [← hX]; exact lim_limbs B64_two _
  generalize hY : limbs B64 (val B64 lb) = ys
  have LY : Lim B64 ys := by rw [← hY]; exact lim_limbs B64_two _
  have hvx : val B64 xs = val B64 la := by rw [← hX, val_limbs B64_two]
  have hvy : val B64 ys = val B64 lb := by rw [← hY, val_limbs B64_two]
  have hlen : ys.length ≠ 0 := fun e => hb0 ((limbs_eq_nil B64_two).1 (by rw [hY]; exact List.eq_nil_of_length_eq_zero e))
  rw [← hvx, ← hvy] at HC
  have HX := Lib.hid hX
  have HY := Lib.hid hY
  have HCC := Lib.hid HC
  have HLN := Lib.hid hlen
  clear hX hY hvx hvy hlt HC hb0 hlen hn0 hm0
  go_enter Try.func55, Try.ntmps55
  go_wp2_with (first
    | (go_at_call 66; (with_reducible refine (trim_any la A n c w ha La HN.out.1 hnc).mono ?_); rintro e w' ⟨⟨k, hk, rfl, hka⟩, rfl⟩; rw [HX.out] at hka)
    | (go_at_call 66; (with_reducible refine (trim_any lb B m d w hb Lb HN.out.2 hmd).mono ?_); rintro e w' ⟨⟨k2, hk2, rfl, hkb⟩, rfl⟩; rw [HY.out] at hkb
       have hkz : ((k2 : Int) == 0) = false := by (have := hkb.1; have := HLN.out; simp; omega))
    | (go_at_call 52; refine (cmp_any xs ys A B k c k2 d w hka hkb LX LY (by have := HN.out.1; omega) (by have := HN.out.2; omega) (by omega) (by omega)).mono ?_; rintro e w' ⟨rfl, q, rfl⟩; rw [HCC.out])
    | (go_at_call 68; refine (fresh_any xs A k c _ (hka.drewN q) (by have := HN0.out; omega)).mono ?_; rintro e w1 ⟨rfl, hown1, hb1⟩))
  go_ret3
  have hb2 : Below w.heap.size w w1 := (below_drawn (Below.refl _ _) q).trans hb1
  have hfr := Fr.of_own hown1 (B := w.heap.size) (Nat.le_refl _) (k := k) (by have := hka.1; omega) (by have := hka.1; have := HN.out.1; omega)
  rw [List.take_of_length_le (by have := hka.1; omega), hka.1] at hfr
  exact ⟨_, _, _, _, _, _, rfl, Nat.le_refl _, by decide, Nat.le_refl _, by have := HN.out.1; omega, Fr.nil, hfr, hb2⟩

set_option maxRecDepth 100000 in
theorem divmod_limb (la lb : List Nat) (A B : Option Addr) (n c m d : Nat) (w : World) (ha : Rd .u64 w A n la) (hb : Rd .u64 w B m lb) (La : Lim B64 la) (Lb : Lim B64 lb) (hn0 : n ≤ 35184372088832) (hm0 : m ≤ 35184372088832)
    (hnc : n ≤ c) (hmd : m ≤ d) (hle : val B64 lb ≤ val B64 la) (hb0 : val B64 lb ≠ 0) (hbB : val B64 lb < B64) :
    Calls Try.prog 55 #[.slice A n c, .slice B m d] w (GivesQR w (limbs B64 (val B64 la / val B64 lb)) (limbs B64 (val B64 la % val B64 lb))) := by
  have HN : Hid (n ≤ maxLen ∧ m ≤ maxLen) := ⟨by unfold maxLen; omega, by unfold maxLen; omega⟩
  have HN0 := Lib.hid hn0
  have HC : 0 ≤ cmpN (val B64 la) (val B64 lb) := by
    rcases Nat.lt_or_eq_of_le hle with h | h
    · rw [cmpN_gt h]; omega
    · rw [cmpN_eq h.symm]; omega
  generalize hX : limbs B64 (val B64 la) = xs
  have LX : Lim B64 xs := by rw [← hX]; exact lim_limbs B64_two _
  have hvx : val B64 xs = val B64 la := by rw [← hX, val_limbs B64_two]
  obtain ⟨y, hy⟩ : ∃ y, y = val B64 lb := ⟨_, rfl⟩
  have hY : limbs B64 (val B64 lb) = [y] := by rw [hy]; exact limbs_small B64_two hbB hb0
  rw [← hvx, ← hy] at HC
  have LY : Lim B64 [y] := Lim.cons (by rw [hy]; exact hbB) Lim.nil
  have hyB : y < B64 := by rw [hy]; exact hbB
  have hy0 : 0 < y := by omega
  have HX := Lib.hid hX
  have HY := Lib.hid hY
  have HVX := Lib.hid hvx
  have HYE := Lib.hid hy
  obtain ⟨r, hr⟩ : ∃ r, r = val B64 xs % y := ⟨_, rfl⟩
  have hre : (val B64 xs : Int) % (y : Int) = (r : Int) := by rw [hr, Int.natCast_emod]
  have hrB : r < B64 := by rw [hr]; exact Nat.lt_trans (Nat.mod_lt _ hy0) hyB
  have HRE := Lib.hid hr
  clear hX hY hvx hle hb0 hbB hn0 hm0 hy hr
  go_enter Try.func55, Try.ntmps55
  go_wp2_with (first
    | (go_at_call 66; (with_reducible refine (trim_any la A n c w ha La HN.out.1 hnc).mono ?_); rintro e w' ⟨⟨k, hk, rfl, hka⟩, rfl⟩; rw [HX.out] at hka)
    | (go_at_call 66; (with_reducible refine (trim_any lb B m d w hb Lb HN.out.2 hmd).mono ?_); rintro e w' ⟨⟨k2, hk2, rfl, hkb⟩, rfl⟩; rw [HY.out] at hkb; obtain rfl : k2 = 1 := hkb.1.symm)
    | (go_at_call 52; refine (cmp_any xs [y] A B k c 1 d w hka hkb LX LY (by have := HN.out.1; omega) (by have := HN.out.2; omega) (by omega) (by omega)).mono ?_; rintro e w' ⟨rfl, q, rfl⟩)
    | (go_at_call 68; refine (fresh_any xs A k c _ (hka.drewN q) (by have := HN0.out; omega)).mono ?_; rintro e w1 ⟨rfl, hown1, hb1⟩
       have hkb1 := (hkb.drewN q).below hb1
       obtain ⟨b, o, hB2, hcb⟩ := hkb1.2 (by omega)
       subst hB2
       have hcy := hcb 0 y rfl
       rw [Nat.add_zero] at hcy
       clear hcb)
    | (go_at_call 75
       refine (byLimb_any xs [] y w.heap.size k k w1 (by simpa using hown1) hka.1 LX hy0 hyB (by have := HN.out.1; omega)).mono ?_
       rintro e w2 ⟨rfl, ⟨Q, hQ1, hQ2, hQ3, hQ4⟩, ho2⟩
       have HQ1 := Lib.hid hQ1
       have HQ3 := Lib.hid hQ3
       clear hQ1 hQ3)
    | (go_at_call 66; refine (trim_own Q w.heap.size k w.heap.size w2 (by simpa using hQ4) (Nat.le_refl _) HQ1.out hQ2 (by have := HN.out.1; omega)).mono ?_; rintro e w' ⟨⟨k3, hk3, rfl, hfr⟩, rfl⟩)
    | (go_at_call 56; refine (of_any r hrB w2).mono ?_; rintro e w3 ⟨A3, n3, c3, rfl, g1, g2, g3, g4⟩))
  go_ret3
  have hb2 : Below w.heap.size w w2 := Below.only ((below_drawn (Below.refl _ _) q).trans hb1) (Nat.le_refl _) hb1.size ho2
  rw [HQ3.out, HVX.out, HYE.out] at hfr
  rw [HRE.out, HVX.out, HYE.out] at g3
  exact ⟨_, _, _, _, _, _, rfl, hk3, by have := HN.out.1; omega, g1, g2, hfr.below g4 (Nat.le_refl _), g3.more hb2.size, hb2.trans (g4.mono hb2.size)⟩
end Go.Proofs.Ytflcgeehpboldaa
