/- nat.limbGcd, nat.highest. -/
import Derived.Test.YthdpllhpdjhogaaDivC
import Derived.Test.YthdpllhpdjhogaaLehM
namespace Go.Proofs.Ythdpllhpdjhogaa
open Go.RowKit

theorem e_mod (x y : Nat) : ((x : Int) % (y : Int)) = ((x % y : Nat) : Int) := by rw [Int.natCast_emod]
set_option maxRecDepth 100000 in
set_option maxHeartbeats 1000000 in
theorem limbGcd_any (x y : Nat) (w : World) (hx : x < B64) (hy : y < B64) :
    Calls Try.prog 57 #[.int .u64 (x : Int), .int .u64 (y : Int)] w fun e w' => e = .returned (.int .u64 ((Nat.gcd x y : Nat) : Int)) ∧ ∃ q, w' = w.drewN q := by
  go_enter Try.func57, Try.ntmps57
  go_wp2_with fail
  go_loopw [0, 1] (fun a b wr => ∃ u v : Nat, a = .int .u64 (u : Int) ∧ b = .int .u64 (v : Int) ∧ u < B64 ∧ v < B64 ∧ Hid (Nat.gcd u v = Nat.gcd x y) ∧ ∃ q, wr = w.drewN q) (fun _ b _ => (intOf b).toNat)
  case atStart => exact ⟨x, y, rfl, rfl, hx, hy, rfl, 0, rfl⟩
  case round =>
    obtain ⟨u, v, rfl, rfl, hu, hv, HG, q, rfl⟩ := hrel
    by_cases hv0 : v = 0
    · subst hv0
      go_wp2_with fail
      go_ret
      exact ⟨ret_int (by rw [← HG.out, Nat.gcd_zero_right]), q, rfl⟩
    · have hne : ((v : Int) != 0) = true := by simp; omega
      have hne2 : ((v : Int) == 0) = false := by simp; omega
      have hlt : u % v < v := Nat.mod_lt _ (by omega)
      go_wp2_with fail
      go_quiet (fail)
      go_wp2_with fail
      go_roundw
      case rel =>
        refine ⟨v, u % v, rfl, ?_, hv, by omega, ?_, _, World.drewN_drewN _ _ _⟩
        · simp
        · show _ = _
          rw [← HG.out, Nat.gcd_comm v, ← Nat.gcd_rec, Nat.gcd_comm]
      case measure => simp [intOf]; omega
end Go.Proofs.Ythdpllhpdjhogaa
