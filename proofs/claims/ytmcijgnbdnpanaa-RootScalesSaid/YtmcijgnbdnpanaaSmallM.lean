/- gessokeep.Small, whatever the bound. -/
import Derived.Test.YtmcijgnbdnpanaaRatF
namespace Go.Proofs.Ytmcijgnbdnpanaa
open Go Go.RowKit

set_option maxRecDepth 100000 in
set_option maxHeartbeats 4000000 in
theorem small_m (M : Nat) {s : Bool} {A A' : Option Addr} {n c n' c' : Nat} (w : World) (L : Bool) (hL : decide (n ≤ M ∧ n' ≤ M) = L) :
    Calls Try.prog 7 #[.agg #[.bool s, .slice A n c, .slice A' n' c'], .int .i64 (M : Int)] w fun e w' => e = .returned (.bool L) ∧ Below w.heap.size w w' := by
  have HL := Lib.hid hL
  clear hL
  go_enter Try.func7, Try.ntmps7
  go_wp2_with fail
  generalize hW : (w.alloc (Obj.cells #[Value.bool s, Value.slice A n c, Value.slice A' n' c'] 26)) = W
  have hb : Below w.heap.size w W := by subst hW; exact ((Below.refl _ _).alloc (Nat.le_refl _) _)
  have XA : B3 W (w.heap.size) (Value.bool s) (Value.slice A n c) (Value.slice A' n' c') := by subst hW; exact B3.new' _ _ _ _ _ rfl
  have hzW : W.heap.size = w.heap.size + 1 := by subst hW; simp
  clear hW
  have xa0 := XA.c0
  have xa1 := XA.c1
  have xa2 := XA.c2
  go_wp2_with fail
  · have h : n ≤ M := by assumption
    go_ret
    refine ⟨?_, by first | assumption | exact (Below.refl _ _).alloc (Nat.le_refl _) _⟩
    show Ending.returned (.bool (decide (n' ≤ M))) = _
    rw [← HL.out]
    by_cases h2 : n' ≤ M
    · rw [decide_eq_true (show n' ≤ M by omega), decide_eq_true (show n ≤ M ∧ n' ≤ M by omega)]
    · rw [decide_eq_false (show ¬ n' ≤ M by omega), decide_eq_false (show ¬ (n ≤ M ∧ n' ≤ M) by omega)]
  · have h : M < n := by omega
    go_ret
    refine ⟨?_, by first | assumption | exact (Below.refl _ _).alloc (Nat.le_refl _) _⟩
    show Ending.returned (.bool false) = _
    rw [← HL.out, decide_eq_false (show ¬ (n ≤ M ∧ n' ≤ M) by omega)]
theorem small_6 {s : Bool} {A A' : Option Addr} {n c n' c' : Nat} (w : World) (L : Bool) (hL : decide (n ≤ 6 ∧ n' ≤ 6) = L) :
    Calls Try.prog 7 #[.agg #[.bool s, .slice A n c, .slice A' n' c'], .int .i64 6] w fun e w' => e = .returned (.bool L) ∧ Below w.heap.size w w' := small_m 6 w L hL
theorem small_8 {s : Bool} {A A' : Option Addr} {n c n' c' : Nat} (w : World) (L : Bool) (hL : decide (n ≤ 8 ∧ n' ≤ 8) = L) :
    Calls Try.prog 7 #[.agg #[.bool s, .slice A n c, .slice A' n' c'], .int .i64 8] w fun e w' => e = .returned (.bool L) ∧ Below w.heap.size w w' := small_m 8 w L hL
end Go.Proofs.Ytmcijgnbdnpanaa
