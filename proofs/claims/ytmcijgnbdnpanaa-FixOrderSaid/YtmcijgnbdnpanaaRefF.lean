/- The document's own answers, sixth part: gessoref01.Mul. -/
import Derived.Test.YtmcijgnbdnpanaaRefAdds
import Derived.Test.YtmcijgnbdnpanaaSums
namespace Go.Proofs.Ytmcijgnbdnpanaa
open Go.RowKit

theorem wrap64_small (n : Nat) (h : n < B64) : IntKind.u64.wrap (n : Int) = (n : Int) := by
  have := wrap_nat n
  rwa [Nat.mod_eq_of_lt h] at this
theorem only_drawn' {g : Nat} {w w' : World} (h : Only g w w') (q : Nat) : Only g w (w'.drewN q) := ⟨h.os, h.tape, h.output, h.size, h.block⟩
theorem rm_expr {u x z y : Nat} (hu : u < B32) (hx : x < B32) (hz : z < B32) (hy : y < B32) :
    IntKind.u64.wrap (IntKind.u64.wrap (IntKind.u64.wrap (u : Int) + IntKind.u64.wrap (IntKind.u64.wrap (x : Int) * IntKind.u64.wrap (z : Int))) + (y : Int)) = ((u + x * z + y : Nat) : Int) := by
  have hb : B32 < B64 := by decide
  have h1 : x * z ≤ (B32 - 1) * (B32 - 1) := Nat.mul_le_mul (by omega) (by omega)
  have h2 : (B32 - 1) * (B32 - 1) + (B32 - 1) + (B32 - 1) < B64 := by decide
  rw [wrap64_small u (by omega), wrap64_small x (by omega), wrap64_small z (by omega), ← Int.natCast_mul, wrap64_small (x * z) (by omega), ← Int.natCast_add, wrap64_small (u + x * z) (by omega), ← Int.natCast_add, wrap64_small _ (by omega)]
theorem rm_step {seg lb S : List Nat} {k u x z y : Nat} (hS : S.length = k) (hu : seg[k]? = some u) (hz : lb[k]? = some z) (h : val B32 S + B32 ^ k * y = val B32 (seg.take k) + x * val B32 (lb.take k)) :
    val B32 (S ++ [(u + x * z + y) % B32]) + B32 ^ (k + 1) * ((u + x * z + y) / B32) = val B32 (seg.take (k + 1)) + x * val B32 (lb.take (k + 1)) := by
  have hp := Nat.mod_add_div (u + x * z + y) B32
  rw [val_snoc, val_take_succ hu, val_take_succ hz, hS, Nat.pow_succ]
  generalize (u + x * z + y) % B32 = lo at *
  generalize (u + x * z + y) / B32 = hi at *
  grind
theorem rl_step {P S : List Nat} {i m x y : Nat} {la lb : List Nat} (hP : P.length = m + i) (hS : S.length = m) (hx : la[i]? = some x)
    (h : val B32 P = val B32 (la.take i) * val B32 lb) (hs : val B32 S + B32 ^ m * y = val B32 (P.drop i) + x * val B32 lb) :
    val B32 ((P.take i ++ S) ++ [y]) = val B32 (la.take (i + 1)) * val B32 lb := by
  rw [val_take_succ hx, val_snoc, val_append, List.length_append, List.length_take, Nat.min_eq_left (by omega), hS, Nat.pow_add, Nat.add_mul, ← h]
  have hp := val_take_drop (B := B32) P i (by omega)
  rw [hp]
  generalize val B32 (P.take i) = p at *
  generalize val B32 (P.drop i) = q at *
  generalize val B32 S = s at *
  generalize val B32 lb = a at *
  generalize B32 ^ i = b at *
  generalize B32 ^ m = c at *
  grind
theorem rm_bound {u x z y : Nat} (hu : u < B32) (hx : x < B32) (hz : z < B32) (hy : y < B32) : u + x * z + y < B64 ∧ x * z < B64 ∧ u + x * z < B64 ∧ (u + x * z + y) / B32 < B32 := by
  have h1 : x * z ≤ (B32 - 1) * (B32 - 1) := Nat.mul_le_mul (by omega) (by omega)
  have h2 : (B32 - 1) * (B32 - 1) + (B32 - 1) + (B32 - 1) < B64 := by decide
  refine ⟨by omega, by omega, by omega, ?_⟩
  rw [Nat.div_lt_iff_lt_mul (by decide), show B32 * B32 = B64 from rfl]; omega

end Go.Proofs.Ytmcijgnbdnpanaa
