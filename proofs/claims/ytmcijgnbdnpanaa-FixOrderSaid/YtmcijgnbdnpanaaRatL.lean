/- gessolaw03.large. -/
import Derived.Test.YtmcijgnbdnpanaaRatF
namespace Go.Proofs.Ytmcijgnbdnpanaa
open Go Go.RowKit

set_option maxRecDepth 100000 in
set_option maxHeartbeats 4000000 in
theorem small_k {s : Bool} {A A' : Option Addr} {n c n' c' : Nat} (w : World) (L : Bool) (hL : decide (n ≤ 12 ∧ n' ≤ 12) = L) :
    Calls Try.prog 7 #[.agg #[.bool s, .slice A n c, .slice A' n' c'], .int .i64 12] w fun e w' => e = .returned (.bool L) ∧ Below w.heap.size w w' := by
  have HL := Lib.hid hL
  clear hL
  go_enter Try.func7, Try.ntmps7
  go_wp2_with fail
  generalize hW : (w.alloc (Obj.cells #[Value.bool s, Value.slice A n c, Value.slice A' n' c'] 26)) = W
  have hb : Below w.heap.size w W := by subst hW; exact ((Below.refl _ _).alloc (Nat.le_refl _) _)
  have XA : B3 W (w.heap.size) (Value.bool s) (Value.slice A n c) (Value.slice A' n' c') := by subst hW; exact B3.new' _ _ _ _ _ rfl
  have hzW : W.heap.size = w.heap.size + 1 := by subst hW; simp
  clear hW
  have xa0 := XA.c0
  have xa1 := XA.c1
  have xa2 := XA.c2
  go_wp2_with fail
  · have h : (n : Int) ≤ 12 := by assumption
    go_ret
    refine ⟨?_, by first | assumption | exact (Below.refl _ _).alloc (Nat.le_refl _) _⟩
    show Ending.returned (.bool (decide ((n' : Int) ≤ 12))) = _
    rw [← HL.out]
    by_cases h2 : n' ≤ 12
    · rw [decide_eq_true (show (n' : Int) ≤ 12 by omega), decide_eq_true (show n ≤ 12 ∧ n' ≤ 12 by omega)]
    · rw [decide_eq_false (show ¬ (n' : Int) ≤ 12 by omega), decide_eq_false (show ¬ (n ≤ 12 ∧ n' ≤ 12) by omega)]
  · have h : (12 : Int) < (n : Int) := by assumption
    go_ret
    refine ⟨?_, by first | assumption | exact (Below.refl _ _).alloc (Nat.le_refl _) _⟩
    show Ending.returned (.bool false) = _
    rw [← HL.out, decide_eq_false (show ¬ (n ≤ 12 ∧ n' ≤ 12) by omega)]

/-- A row of limbs read: a fraction in any form. -/
theorem QR.of_rd {w : World} {s : Bool} {A A' : Option Addr} {n c n' c' k : Nat} {l l' : List Nat} (h : Rd .u64 w A n l) (hL : Lim B64 l) (hnc : n ≤ c) (h' : Rd .u64 w A' n' l') (hL' : Lim B64 l') (hnc' : n' ≤ c') (hk : n ≤ k) (hk' : n' ≤ k) :
    QR w s A n c A' n' c' (mkRat (iv s (val B64 l)) (den1 (val B64 l'))) k := ⟨_, _, ZR.of_rd h hL hnc hk, ⟨l', h', hL', rfl, hnc', hk'⟩, rfl⟩
end Go.Proofs.Ytmcijgnbdnpanaa
