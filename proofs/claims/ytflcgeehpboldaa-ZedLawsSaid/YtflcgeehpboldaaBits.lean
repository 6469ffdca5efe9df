/- nat.Bits: how many bits a number has. -/
import Derived.Test.YtflcgeehpboldaaMake
import Derived.Lib.BitFns
import Derived.Lib.ItoaNum
namespace Go.Proofs.Ytflcgeehpboldaa
open Go.RowKit

/-- How many bits n has. -/
def bl (n : Nat) : Nat := (limbs 2 n).length
theorem bl_zero : bl 0 = 0 := by rw [bl, limbs_zero]; rfl
theorem lt_bl (n : Nat) : n < 2 ^ bl n := lt_pow_limbs (Nat.le_refl 2) n
theorem bl_le {n k : Nat} (h : n < 2 ^ k) : bl n ≤ k := length_limbs_le (Nat.le_refl 2) h
theorem le_of_bl {n k : Nat} (h : k < bl n) : 2 ^ k ≤ n := pow_le_of_length (Nat.le_refl 2) h
theorem bl_eq {n k : Nat} (h1 : 2 ^ k ≤ n) (h2 : n < 2 ^ (k + 1)) : bl n = k + 1 := by
  have := bl_le h2
  rcases Nat.lt_or_ge k (bl n) with h | h
  · omega
  · have h3 := lt_bl n
    have := Nat.pow_le_pow_right (n := 2) (by omega) h
    omega
theorem bl_pos {n : Nat} (h : n ≠ 0) : 0 < bl n := by
  rcases Nat.eq_zero_or_pos (bl n) with h0 | h0
  · have := lt_bl n; rw [h0] at this; omega
  · exact h0
theorem bl_mono {m n : Nat} (h : m ≤ n) : bl m ≤ bl n := bl_le (Nat.lt_of_le_of_lt h (lt_bl n))
theorem bitLen_bl {x : Nat} (h : x < B64) : Lib.bitLen x = bl x := by
  by_cases h0 : x = 0
  · subst h0; rw [bl_zero]; exact Lib.bitLenAux_zero 64
  · obtain ⟨h1, h2, h3⟩ := Lib.bitLenAux_bounds 64 x h h0
    have := bl_eq (n := x) (k := Lib.bitLen x - 1) h2 (by rw [show Lib.bitLen x - 1 + 1 = Lib.bitLen x by unfold Lib.bitLen; omega]; exact h3)
    rw [this]; unfold Lib.bitLen; omega
/-- The bits of a number by those of its highest limb. -/
theorem bl_top {V k x : Nat} (hl : (limbs B64 V).length = k + 1) (hx : (limbs B64 V)[k]? = some x) : bl V = 64 * k + bl x := by
  have hL := lim_limbs B64_two V
  have hxB := hL.get hx
  have hx0 : x ≠ 0 := by
    intro e
    apply limbs_last B64_two V
    rw [List.getLast?_eq_getElem?, hl, show k + 1 - 1 = k by omega, hx, e]
  have e1 := val_take_drop (B := B64) (limbs B64 V) k (by omega)
  have hk : k < (limbs B64 V).length := by omega
  rw [List.drop_eq_getElem_cons hk, List.drop_of_length_le (by omega), (List.getElem?_eq_some_iff.1 hx).2, val_limbs B64_two] at e1
  have e2 := val_lt (hL.take k)
  rw [List.length_take, Nat.min_eq_left (by omega)] at e2
  simp only [val_cons, val_nil, Nat.mul_zero, Nat.add_zero] at e1
  have h1 := lt_bl x
  have h2 := le_of_bl (n := x) (k := bl x - 1) (by have := bl_pos hx0; omega)
  have hb := bl_pos hx0
  have hp : B64 ^ k = 2 ^ (64 * k) := by rw [Nat.pow_mul]; rfl
  have := bl_eq (n := V) (k := 64 * k + bl x - 1) ?_ ?_
  · rw [this]; omega
  · rw [e1, show 64 * k + bl x - 1 = 64 * k + (bl x - 1) by omega, Nat.pow_add, hp]
    exact Nat.le_trans (Nat.mul_le_mul_left _ h2) (Nat.le_add_left _ _)
  · rw [show 64 * k + bl x - 1 + 1 = 64 * k + bl x by omega, Nat.pow_add, e1, ← hp]
    have h3 := Nat.mul_le_mul_left (B64 ^ k) h1
    rw [Nat.mul_succ] at h3
    omega

theorem len64_any (x : Nat) (hx : x < B64) (w : World) :
    Calls Try.prog 84 #[.int .u64 (x : Int)] w fun e w' => e = .returned (.int .i64 (bl x : Nat)) ∧ w = w' := by
  refine (Try.bits_Len64 (x : Int) w (by omega) (by have := B64_eq; omega)).mono fun e w' ⟨he, hw⟩ => ⟨?_, hw.symm⟩
  rw [he, Int.toNat_natCast, bitLen_bl hx]
theorem lz64_any (x : Nat) (hx : x < B64) (w : World) :
    Calls Try.prog 94 #[.int .u64 (x : Int)] w fun e w' => e = .returned (.int .i64 ((64 - bl x : Nat) : Int)) ∧ w = w' := by
  refine (Try.bits_LeadingZeros64 (x : Int) w (by omega) (by have := B64_eq; omega)).mono fun e w' ⟨he, hw⟩ => ⟨?_, hw.symm⟩
  rw [he, Int.toNat_natCast, bitLen_bl hx]
  have : bl x ≤ 64 := bl_le hx
  congr 2; omega

set_option maxRecDepth 100000 in
theorem bits_any (l : List Nat) (A : Option Addr) (n c : Nat) (w : World) (h : Rd .u64 w A n l) (hL : Lim B64 l) (hn0 : n ≤ 35184372088832) (hnc : n ≤ c) :
    Calls Try.prog 61 #[.slice A n c] w fun e w' => e = .returned (.int .i64 (bl (val B64 l) : Nat)) ∧ w = w' := by
  have hn : n ≤ 2 ^ 45 := by omega
  have HN : Hid (n ≤ maxLen) := by show n ≤ maxLen; unfold maxLen; omega
  clear hn0
  generalize hX : limbs B64 (val B64 l) = xs
  have LX : Lim B64 xs := by rw [← hX]; exact lim_limbs B64_two _
  by_cases hV : val B64 l = 0
  · have HX : Hid (xs = []) := by show _ = _; rw [← hX, hV, limbs_zero]
    have HR : Hid (limbs B64 (val B64 l) = xs) := hX
    have HV := Lib.hid hV
    clear hX hV
    go_enter Try.func61, Try.ntmps61
    go_wp2_with (go_at_call 66; ((with_reducible refine (trim_any l A n c _ h hL HN.out hnc).mono ?_); rintro e w' ⟨⟨k, hk, rfl, hka⟩, rfl⟩; rw [HR.out] at hka; obtain rfl : k = 0 := by (have := hka.1; rw [HX.out] at this; exact this.symm)))
    go_ret
    exact ⟨ret_int (by rw [HV.out, bl_zero]; rfl), rfl⟩
  · have HX : Hid (0 < xs.length) := by
      show 0 < xs.length
      rcases Nat.eq_zero_or_pos xs.length with h0 | h0
      · exact absurd ((limbs_eq_nil B64_two).1 (by rw [hX]; exact List.eq_nil_of_length_eq_zero h0)) hV
      · exact h0
    have HR : Hid (limbs B64 (val B64 l) = xs) := hX
    clear hX hV
    go_enter Try.func61, Try.ntmps61
    go_wp2_with (first
      | (go_at_call 66; (with_reducible refine (trim_any l A n c _ h hL HN.out hnc).mono ?_); rintro e w' ⟨⟨k, hk, rfl, hka⟩, rfl⟩
         rw [HR.out] at hka
         have hkl := hka.1
         have hk0 : 0 < k := by have := HX.out; omega
         have hkz : ((k : Int) == 0) = false := by simp; omega
         obtain ⟨b, o, hA, hc⟩ := hka.at_ hk0
         subst hA
         obtain ⟨x, hx, hcx⟩ := hc (k - 1) (by omega)
         have hblx : bl x ≤ 64 := bl_le (LX.get hx)
         have HKL := Lib.hid hkl
         have HXK := Lib.hid hx
         clear hkl hx hc)
      | (go_at_call 84; ((with_reducible refine (len64_any x (LX.get HXK.out) _).mono ?_); rintro e w' ⟨rfl, rfl⟩)))
    go_ret
    refine ⟨ret_int ?_, rfl⟩
    have hl1 : (limbs B64 (val B64 l)).length = k - 1 + 1 := by rw [HR.out, HKL.out]; omega
    have hb := bl_top hl1 (by rw [HR.out]; exact HXK.out)
    rw [hb]
    omega
end Go.Proofs.Ytflcgeehpboldaa
