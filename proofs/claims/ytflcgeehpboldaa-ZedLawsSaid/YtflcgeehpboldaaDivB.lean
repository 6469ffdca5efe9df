/- math/bits.Div64: two words by one. -/
import Derived.Test.YtflcgeehpboldaaDiv64
namespace Go.Proofs.Ytflcgeehpboldaa
open Go.RowKit

theorem and_low (x : Nat) (hx : x < B64) : bits .and .u64 (x : Int) 4294967295 = ((x % 4294967296 : Nat) : Int) := by
  have := u64_and_nat x 4294967295 (by rw [← B64_eq]; exact hx) (by omega)
  rw [show (4294967295 : Int) = ((4294967295 : Nat) : Int) from rfl, this, show (4294967295 : Nat) = 2 ^ 32 - 1 from rfl, Nat.and_two_pow_sub_one_eq_mod]
theorem wrap_small (n : Nat) (h : n < B64) : IntKind.u64.wrap (n : Int) = (n : Int) := by
  have := wrap_nat n
  rwa [Nat.mod_eq_of_lt h] at this
theorem e_rest {U l1 Q Y R : Nat} (h : U * 4294967296 + l1 = Q * Y + R) (hR : R < B64) :
    IntKind.u64.wrap (IntKind.u64.wrap (IntKind.u64.wrap ((U : Int) * 4294967296) + (l1 : Int)) - IntKind.u64.wrap ((Q : Int) * (Y : Int))) = (R : Int) := by
  simp only [IntKind.wrap_u64]
  have h1 : (U : Int) * 4294967296 + (l1 : Int) = (Q : Int) * (Y : Int) + (R : Int) := by
    have := congrArg (fun n : Nat => (n : Int)) h
    simp only [Int.natCast_add, Int.natCast_mul] at this
    exact this
  rw [B64_eq] at hR
  generalize (Q : Int) * (Y : Int) = p at *
  omega
theorem e_quo {U Y1 : Nat} (hU : U < B64) : IntKind.u64.wrap ((U : Int) / (Y1 : Int)) = ((U / Y1 : Nat) : Int) := by
  rw [← Int.natCast_ediv]
  exact wrap_small _ (Nat.lt_of_le_of_lt (Nat.div_le_self _ _) hU)
theorem e_rem {U Y1 : Nat} (hU : U < B64) : IntKind.u64.wrap ((U : Int) - IntKind.u64.wrap (((U / Y1 : Nat) : Int) * (Y1 : Int))) = ((U % Y1 : Nat) : Int) := by
  have h1 : U / Y1 * Y1 ≤ U := Nat.div_mul_le_self _ _
  have h2 := Nat.div_add_mod U Y1
  rw [Nat.mul_comm] at h2
  rw [← Int.natCast_mul, wrap_small _ (by omega)]
  rw [show (U : Int) - ((U / Y1 * Y1 : Nat) : Int) = ((U % Y1 : Nat) : Int) by omega]
  exact wrap_small _ (by omega)

/-- Two words by one: the quotient's two halves one behind the other. -/
theorem div_halves {N y s Y U L l1 l0 H Q1 R1 Q0 R0 : Nat} (hy : Y = y * 2 ^ s) (hB : B64 = H * H) (hL : L = l1 * H + l0) (hN : N * 2 ^ s = U * B64 + L) (h1 : U * H + l1 = Q1 * Y + R1) (h0 : R1 * H + l0 = Q0 * Y + R0) (hR : R0 < Y) :
    N / y = Q1 * H + Q0 ∧ N % y = R0 / 2 ^ s := by
  have hp := Nat.two_pow_pos s
  have hT : N * 2 ^ s = (Q1 * H + Q0) * Y + R0 := by
    rw [hN, hB, hL]
    have : U * (H * H) + (l1 * H + l0) = (U * H + l1) * H + l0 := by grind
    rw [this, h1]
    grind
  generalize Q1 * H + Q0 = q at *
  have hT2 : N * 2 ^ s = q * y * 2 ^ s + R0 := by rw [hT, hy, Nat.mul_assoc]
  have hle : q * y ≤ N := by
    rcases Nat.lt_or_ge N (q * y) with h | h
    · have := Nat.mul_lt_mul_of_pos_right h hp; omega
    · exact h
  have hR0 : R0 = (N - q * y) * 2 ^ s := by rw [Nat.sub_mul]; omega
  have hlt : N - q * y < y := by
    rw [hR0, hy] at hR
    exact Nat.lt_of_mul_lt_mul_right hR
  have e : N = q * y + (N - q * y) := by omega
  have hy0 : 0 < y := by omega
  constructor
  · rw [e, Nat.mul_comm q y, Nat.mul_add_div hy0, Nat.div_eq_of_lt (by rw [Nat.mul_comm y q]; exact hlt)]; omega
  · rw [hR0, Nat.mul_div_cancel _ hp]
    conv => lhs; rw [e]
    rw [Nat.mul_comm q y, Nat.mul_add_mod, Nat.mod_eq_of_lt (by rw [Nat.mul_comm y q]; exact hlt)]

theorem div64_big (hi lo y : Nat) (w : World) (hy : hi < y) (hyB : y < B64) (hlo : lo < B64) (hhi : 0 < hi) :
    Calls Try.prog 93 #[.int .u64 (hi : Int), .int .u64 (lo : Int), .int .u64 (y : Int)] w fun e w' => e = .returned (.tuple #[.int .u64 (((hi * B64 + lo) / y : Nat) : Int), .int .u64 (((hi * B64 + lo) % y : Nat) : Int)]) ∧ w = w' := by
  have hb1 : 0 < bl y := bl_pos (by omega)
  have hb64 : bl y ≤ 64 := bl_le hyB
  obtain ⟨s, hs⟩ : ∃ s, 64 - bl y = s := ⟨_, rfl⟩
  have hs64 : s < 64 := by omega
  have hsl : s ≤ 64 := by omega
  have hY1 : y * 2 ^ s < B64 := by
    have := Nat.mul_lt_mul_of_pos_right (lt_bl y) (Nat.two_pow_pos s)
    rw [← Nat.pow_add, show bl y + s = 64 by omega] at this
    exact this
  have hY2 : 2 ^ 63 ≤ y * 2 ^ s := by
    have := Nat.mul_le_mul_right (2 ^ s) (le_of_bl (n := y) (k := bl y - 1) (by omega))
    rw [← Nat.pow_add, show bl y - 1 + s = 63 by omega] at this
    exact this
  have hhi2 : hi * 2 ^ s + 2 ^ s ≤ y * 2 ^ s := by
    have := Nat.mul_le_mul_right (2 ^ s) hy
    rw [Nat.succ_mul] at this
    exact this
  have hlow := shr_lt (s := s) hsl hlo
  have hLB : lo * 2 ^ s % B64 < B64 := Nat.mod_lt _ (by decide)
  obtain ⟨Y, hY⟩ : ∃ Y, Y = y * 2 ^ s := ⟨_, rfl⟩
  obtain ⟨U, hU⟩ : ∃ U, U = hi * 2 ^ s + lo / 2 ^ (64 - s) := ⟨_, rfl⟩
  obtain ⟨L, hL⟩ : ∃ L, L = lo * 2 ^ s % B64 := ⟨_, rfl⟩
  have hUY : U < Y := by omega
  have hYB : Y < B64 := by omega
  rw [← hY] at hY2
  have hUB : U < B64 := by omega
  have hLt : L < B64 := by omega
  have hY63 : 9223372036854775808 ≤ Y := hY2
  have bY1 : 2147483648 ≤ Y / 4294967296 := by omega
  have hYB' : Y < 18446744073709551616 := by rw [← B64_eq]; exact hYB
  have hLt' : L < 18446744073709551616 := by rw [← B64_eq]; exact hLt
  have h1 := Nat.div_add_mod (U * 4294967296 + L / 4294967296) Y
  have h1l := Nat.mod_lt (U * 4294967296 + L / 4294967296) (show 0 < Y by omega)
  obtain ⟨Q1, hQ1⟩ : ∃ Q, Q = (U * 4294967296 + L / 4294967296) / Y := ⟨_, rfl⟩
  obtain ⟨R1, hR1⟩ : ∃ Q, Q = (U * 4294967296 + L / 4294967296) % Y := ⟨_, rfl⟩
  rw [← hQ1, ← hR1, Nat.mul_comm Y] at h1
  rw [← hR1] at h1l
  have h0 := Nat.div_add_mod (R1 * 4294967296 + L % 4294967296) Y
  have h0l := Nat.mod_lt (R1 * 4294967296 + L % 4294967296) (show 0 < Y by omega)
  obtain ⟨Q0, hQ0⟩ : ∃ Q, Q = (R1 * 4294967296 + L % 4294967296) / Y := ⟨_, rfl⟩
  obtain ⟨R0, hR0⟩ : ∃ Q, Q = (R1 * 4294967296 + L % 4294967296) % Y := ⟨_, rfl⟩
  rw [← hQ0, ← hR0, Nat.mul_comm Y] at h0
  rw [← hR0] at h0l
  have hT : (hi * B64 + lo) * 2 ^ s = U * B64 + L := by
    have := shl_parts hsl lo
    rw [← hL] at this
    rw [Nat.add_mul, this, hU]
    grind
  obtain ⟨hq, hr⟩ := div_halves (H := 4294967296) (l1 := L / 4294967296) (l0 := L % 4294967296) hY rfl (by omega) hT h1.symm h0.symm h0l
  have hqB : Q1 * 4294967296 + Q0 < B64 := by
    rw [← hq, Nat.div_lt_iff_lt_mul (by omega)]
    have h2 : (hi + 1) * B64 ≤ y * B64 := Nat.mul_le_mul_right _ hy
    rw [Nat.succ_mul] at h2
    rw [Nat.mul_comm B64 y]
    omega
  have hR1B : R1 < B64 := by omega
  have hR0B : R0 < B64 := by omega
  have E1 : EstOf Y (Y / 4294967296) (Y % 4294967296) U (L / 4294967296) Q1 := ⟨by rw [H32_eq]; omega, by rw [H32_eq]; omega, by rw [H32_eq]; omega, by omega, hUY, by rw [H32_eq]; omega, by rw [H32_eq]; exact hQ1⟩
  have E2 : EstOf Y (Y / 4294967296) (Y % 4294967296) R1 (L % 4294967296) Q0 := ⟨by rw [H32_eq]; omega, by rw [H32_eq]; omega, by rw [H32_eq]; omega, by omega, h1l, by rw [H32_eq]; omega, by rw [H32_eq]; exact hQ0⟩
  rw [hq, hr]
  refine div64_core hi lo y s Y (Y / 4294967296) (Y % 4294967296) L (L / 4294967296) (L % 4294967296) U Q1 R1 Q0 R0 _ _ (U / (Y / 4294967296)) (U % (Y / 4294967296)) (R1 / (Y / 4294967296)) (R1 % (Y / 4294967296)) w hy hyB hhi hs hs64
    E1 E2 (by omega) (by omega) (by omega) (by omega) (by omega) ?_ (by omega) (and_low Y hYB) ?_ ?_ (by omega) (and_low L hLt) (e_rest h1.symm hR1B) ⟨rfl, hqB⟩ (e_rest h0.symm hR0B) ?_
    (e_quo hUB) (e_rem hUB) (e_quo hR1B) (e_rem hR1B) E1.start E2.start ?_ ?_ ?_ ?_
  · rw [shl_wrap, ← hY, Nat.mod_eq_of_lt hYB]
  · rw [shr_nat, or_up hsl hi hlow, Nat.mod_eq_of_lt (by have := Nat.two_pow_pos s; omega), hU]
  · rw [shl_wrap, hL]
  · exact shr_nat _ _
  · rw [← B64_eq]; exact Nat.lt_of_le_of_lt (Nat.div_le_self _ _) hUB
  · rw [← B64_eq]; exact Nat.lt_of_le_of_lt (Nat.div_le_self _ _) hR1B
  · have := Nat.mod_lt U (show 0 < Y / 4294967296 by omega); omega
  · have := Nat.mod_lt R1 (show 0 < Y / 4294967296 by omega); omega
end Go.Proofs.Ytflcgeehpboldaa
