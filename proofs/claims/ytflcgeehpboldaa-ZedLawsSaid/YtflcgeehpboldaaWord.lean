/- Words of 64 bits: shifts, or, wraps, as natural numbers. Plain arithmetic. -/
import Derived.Test.YtflcgeehpboldaaMem
import Derived.Laws.BitsAllLaws
namespace Go.Proofs.Ytflcgeehpboldaa
open Go.RowKit

theorem B64_eq : B64 = 18446744073709551616 := rfl
theorem split64 {s : Nat} (hs : s ≤ 64) : B64 = 2 ^ s * 2 ^ (64 - s) := by
  rw [← Nat.pow_add, show s + (64 - s) = 64 by omega]; rfl
theorem wrap_nat (n : Nat) : IntKind.u64.wrap (n : Int) = ((n % B64 : Nat) : Int) := by
  rw [IntKind.wrap_u64, B64_eq]; omega
theorem wrap_add (a b : Nat) (h : a + b < B64) : IntKind.u64.wrap ((a : Int) + (b : Int)) = ((a + b : Nat) : Int) := by
  have := wrap_nat (a + b)
  rw [Nat.mod_eq_of_lt h] at this
  exact this
theorem shr_nat (v k : Nat) : ((v : Int) / 2 ^ k) = ((v / 2 ^ k : Nat) : Int) := by simp
theorem shl_wrap (v s : Nat) : IntKind.u64.wrap ((v : Int) * 2 ^ s) = ((v * 2 ^ s % B64 : Nat) : Int) := by
  rw [← wrap_nat]; congr 1
theorem shl_mod {s : Nat} (hs : s ≤ 64) (v : Nat) : v * 2 ^ s % B64 = 2 ^ s * (v % 2 ^ (64 - s)) := by
  rw [split64 hs, Nat.mul_comm v, Nat.mul_mod_mul_left]
theorem shl_div {s : Nat} (hs : s ≤ 64) (v : Nat) : v * 2 ^ s / B64 = v / 2 ^ (64 - s) := by
  rw [split64 hs, Nat.mul_comm v, Nat.mul_div_mul_left _ _ (Nat.two_pow_pos s)]
theorem shl_parts {s : Nat} (hs : s ≤ 64) (v : Nat) : v * 2 ^ s = v * 2 ^ s % B64 + B64 * (v / 2 ^ (64 - s)) := by
  rw [← shl_div hs]; exact (Nat.mod_add_div _ _).symm
theorem or_low {s : Nat} (a b : Nat) (hb : b < 2 ^ s) : (2 ^ s * a) ||| b = 2 ^ s * a + b := (Nat.two_pow_add_eq_or_of_lt hb a).symm
theorem shl_low {s y : Nat} (hs : s ≤ 64) (v : Nat) (hy : y < 2 ^ s) : v * 2 ^ s % B64 + y < B64 := by
  rw [shl_mod hs]
  have h1 : v % 2 ^ (64 - s) + 1 ≤ 2 ^ (64 - s) := Nat.mod_lt _ (Nat.two_pow_pos _)
  have h2 := Nat.mul_le_mul_left (2 ^ s) h1
  rw [← split64 hs, Nat.mul_add] at h2
  omega
/-- A limb moved up, and what came over from the limb below. -/
theorem or_up {s y : Nat} (hs : s ≤ 64) (v : Nat) (hy : y < 2 ^ s) :
    bits .or .u64 (IntKind.u64.wrap ((v : Int) * 2 ^ s)) (y : Int) = ((v * 2 ^ s % B64 + y : Nat) : Int) := by
  have h := shl_low hs v hy
  rw [shl_wrap, u64_or_nat _ _ (by rw [← B64_eq]; omega) (by rw [← B64_eq]; omega), shl_mod hs, or_low _ _ hy]
theorem shr_lt {s v : Nat} (hs : s ≤ 64) (hv : v < B64) : v / 2 ^ (64 - s) < 2 ^ s := by
  rw [Nat.div_lt_iff_lt_mul (Nat.two_pow_pos _), ← split64 hs]; exact hv
/-- A limb moved down, and what comes over from the limb above. -/
theorem or_down {s : Nat} (hs : s ≤ 64) (x u : Nat) (hx : x < B64) :
    bits .or .u64 ((x / 2 ^ s : Nat) : Int) (IntKind.u64.wrap ((u : Int) * 2 ^ (64 - s))) = ((x / 2 ^ s + u * 2 ^ (64 - s) % B64 : Nat) : Int) := by
  have hl : x / 2 ^ s < 2 ^ (64 - s) := by
    have := shr_lt (s := 64 - s) (by omega) hx
    rwa [show 64 - (64 - s) = s by omega] at this
  have h1 : x / 2 ^ s < B64 := Nat.lt_of_le_of_lt (Nat.div_le_self _ _) hx
  have h2 : u * 2 ^ (64 - s) % B64 < B64 := Nat.mod_lt _ (by decide)
  rw [shl_wrap, u64_or_nat _ _ (by rw [← B64_eq]; omega) (by rw [← B64_eq]; omega), Nat.or_comm, shl_mod (by omega), or_low _ _ hl, Nat.add_comm]

theorem down_lt {s x : Nat} (hs : s ≤ 64) (hx : x < B64) (u : Nat) : x / 2 ^ s + u * 2 ^ (64 - s) % B64 < B64 := by
  have hl : x / 2 ^ s < 2 ^ (64 - s) := by
    have := shr_lt (s := 64 - s) (by omega) hx
    rwa [show 64 - (64 - s) = s by omega] at this
  have := shl_low (s := 64 - s) (by omega) u hl
  omega

/-! ### shifts of limbs -/
theorem up_start {lx : List Nat} {s : Nat} : val B64 ([] : List Nat) + B64 ^ 0 * 0 = val B64 (lx.take 0) * 2 ^ s := by simp
theorem val_take_succ {B : Nat} {l : List Nat} {k v : Nat} (hv : l[k]? = some v) : val B (l.take (k + 1)) = val B (l.take k) + B ^ k * v := by
  have hk := (List.getElem?_eq_some_iff.1 hv).1
  rw [List.take_succ_eq_append_getElem hk, val_snoc, List.length_take, Nat.min_eq_left (by omega), (List.getElem?_eq_some_iff.1 hv).2]
theorem up_step {lx P : List Nat} {s k v y : Nat} (hs : s ≤ 64) (hP : P.length = k) (hv : lx[k]? = some v) (h : val B64 P + B64 ^ k * y = val B64 (lx.take k) * 2 ^ s) :
    val B64 (P ++ [v * 2 ^ s % B64 + y]) + B64 ^ (k + 1) * (v / 2 ^ (64 - s)) = val B64 (lx.take (k + 1)) * 2 ^ s := by
  have hp := shl_parts hs v
  rw [val_snoc, val_take_succ hv, hP, Nat.pow_succ]
  grind
theorem down_step {l : List Nat} {s k x : Nat} (hs : s ≤ 64) (hx : l[k]? = some x) :
    val B64 (l.drop k) / 2 ^ s = (x / 2 ^ s + (l[k + 1]?.getD 0) * 2 ^ (64 - s) % B64) + B64 * (val B64 (l.drop (k + 1)) / 2 ^ s) := by
  have hk := (List.getElem?_eq_some_iff.1 hx).1
  rw [List.drop_eq_getElem_cons hk, (List.getElem?_eq_some_iff.1 hx).2, val_cons]
  have hm : (l[k + 1]?.getD 0) * 2 ^ (64 - s) % B64 = 2 ^ (64 - s) * (val B64 (l.drop (k + 1)) % 2 ^ s) := by
    rw [shl_mod (by omega), show 64 - (64 - s) = s by omega]
    congr 1
    by_cases h : k + 1 < l.length
    · rw [List.getElem?_eq_getElem h, Option.getD_some, List.drop_eq_getElem_cons h, val_cons, split64 hs, Nat.mul_assoc, Nat.add_mul_mod_self_left]
    · rw [List.getElem?_eq_none (by omega), List.drop_of_length_le (by omega)]; simp
  rw [hm]
  generalize val B64 (l.drop (k + 1)) = D
  have hD := Nat.mod_add_div D (2 ^ s)
  have e : x + B64 * D = x + 2 ^ s * (2 ^ (64 - s) * D) := by rw [split64 hs, Nat.mul_assoc]
  rw [e, Nat.add_mul_div_left _ _ (Nat.two_pow_pos s), split64 hs]
  generalize 2 ^ (64 - s) = t at *
  generalize 2 ^ s = p at *
  have : t * D = t * (D % p) + p * t * (D / p) := by
    conv => lhs; rw [← hD]
    grind
  omega
end Go.Proofs.Ytflcgeehpboldaa
