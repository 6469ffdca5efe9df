/- gessolaw03.large. -/
import Derived.Test.YtehkgiiiobnkdaaGreatRatF
namespace Go.Proofs.YtehkgiiiobnkdaaGreat
open Go Go.RowKit

set_option maxRecDepth 100000 in
set_option maxHeartbeats 4000000 in
theorem small_k {s : Bool} {A A' : Option Addr} {n c n' c' : Nat} (w : World) (L : Bool) (hL : decide (n ≤ 12 ∧ n' ≤ 12) = L) :
    Calls Tryz.prog 53 #[.agg #[.bool s, .slice A n c, .slice A' n' c'], .int .i64 12] w fun e w' => e = .returned (.bool L) ∧ Below w.heap.size w w' := by
  have HL := Lib.hid hL
  clear hL
  go_enter Tryz.func53, Tryz.ntmps53
  go_wp2_with fail
  generalize hW : (w.alloc (Obj.cells #[Value.bool s, Value.slice A n c, Value.slice A' n' c'] 26)) = W
  have hb : Below w.heap.size w W := by subst hW; exact ((Below.refl _ _).alloc (Nat.le_refl _) _)
  have XA : B3 W (w.heap.size) (Value.bool s) (Value.slice A n c) (Value.slice A' n' c') := by subst hW; exact B3.new' _ _ _ _ _ rfl
  have hzW : W.heap.size = w.heap.size + 1 := by subst hW; simp
  clear hW
  have xa0 := XA.c0
  have xa1 := XA.c1
  have xa2 := XA.c2
  go_wp2_with fail
  · have h : (n : Int) ≤ 12 := by assumption
    go_ret
    refine ⟨?_, by first | assumption | exact (Below.refl _ _).alloc (Nat.le_refl _) _⟩
    show Ending.returned (.bool (decide ((n' : Int) ≤ 12))) = _
    rw [← HL.out]
    by_cases h2 : n' ≤ 12
    · rw [decide_eq_true (show (n' : Int) ≤ 12 by omega), decide_eq_true (show n ≤ 12 ∧ n' ≤ 12 by omega)]
    · rw [decide_eq_false (show ¬ (n' : Int) ≤ 12 by omega), decide_eq_false (show ¬ (n ≤ 12 ∧ n' ≤ 12) by omega)]
  · have h : (12 : Int) < (n : Int) := by assumption
    go_ret
    refine ⟨?_, by first | assumption | exact (Below.refl _ _).alloc (Nat.le_refl _) _⟩
    show Ending.returned (.bool false) = _
    rw [← HL.out, decide_eq_false (show ¬ (n ≤ 12 ∧ n' ≤ 12) by omega)]

set_option maxRecDepth 100000 in
set_option maxHeartbeats 4000000 in
theorem qlarge_any (s : Bool) (A A' : Option Addr) (n c n' c' : Nat) (w : World) (L : Bool) (hL : decide (n ≤ 12 ∧ n' ≤ 12) = L) :
    Calls Tryz.prog 11 #[.agg #[.bool s, .slice A n c, .slice A' n' c']] w fun e w' => e = .returned (.bool (!L)) ∧ Below w.heap.size w w' := by
  have HL := Lib.hid hL
  clear hL
  go_enter Tryz.func11, Tryz.ntmps11
  go_wp2_with fail
  generalize hW : (w.alloc (Obj.cells #[Value.bool s, Value.slice A n c, Value.slice A' n' c'] 26)) = W
  have hb : Below w.heap.size w W := by subst hW; exact ((Below.refl _ _).alloc (Nat.le_refl _) _)
  have XA : B3 W (w.heap.size) (Value.bool s) (Value.slice A n c) (Value.slice A' n' c') := by subst hW; exact B3.new' _ _ _ _ _ rfl
  have hzW : W.heap.size = w.heap.size + 1 := by subst hW; simp
  clear hW
  have xa0 := XA.c0
  have xa1 := XA.c1
  have xa2 := XA.c2
  go_wp2_with (first
      | (go_at_call 53; (with_reducible refine (small_k _ L HL.out).mono ?_); rintro e w_z ⟨rfl, hh⟩
         try replace XA := XA.below hh
         replace hb := bend hb hh))
  go_ret
  exact ⟨rfl, hb⟩

end Go.Proofs.YtehkgiiiobnkdaaGreat
