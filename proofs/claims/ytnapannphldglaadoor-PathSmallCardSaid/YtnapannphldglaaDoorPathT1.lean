/- gessoref11.dec, gessolaw11.dec, far, Used by value. -/
import Derived.Test.YtnapannphldglaaDoorPathX
namespace Go.Proofs.YtnapannphldglaaDoor
open Go Go.RowKit

set_option maxRecDepth 100000 in
set_option maxHeartbeats 4000000 in
theorem far11 {w : World} (v : Int) : Calls Tryd.prog 22 #[.int .i64 v] w fun e w' => e = .returned (.bool (decide (2147483648 ≤ v) || decide (v ≤ -2147483648))) ∧ w = w' := by
  by_cases h1 : 2147483648 ≤ v
  · have e1 : decide (2147483648 ≤ v) = true := decide_eq_true h1
    go_enter Tryd.func22, Tryd.ntmps22
    go_wp2
    go_ret
    exact ⟨by simp [h1], rfl⟩
  · have e1 : decide (2147483648 ≤ v) = false := decide_eq_false h1
    by_cases h2 : v ≤ -2147483648
    · go_enter Tryd.func22, Tryd.ntmps22
      go_wp2
      go_ret
      exact ⟨by simp, rfl⟩
    · go_enter Tryd.func22, Tryd.ntmps22
      go_wp2
      go_ret
      exact ⟨by simp [h2], rfl⟩
def used (k : Int) : Int := if k = 1 ∨ k = 2 then 2 else if k = 3 ∨ k = 5 then 4 else if k = 4 then 6 else if k = 6 then 0 else -1
set_option maxRecDepth 100000 in
set_option maxHeartbeats 4000000 in
theorem used11 {w : World} (k : Int) : Calls Tryd.prog 12 #[.int .i64 k] w fun e w' => e = .returned (.int .i64 (used k)) ∧ w = w' := by
  by_cases h1 : k = 1
  · subst h1
    go_enter Tryd.func12, Tryd.ntmps12
    go_wp2
    go_ret
    exact ⟨rfl, rfl⟩
  by_cases h2 : k = 2
  · subst h2
    go_enter Tryd.func12, Tryd.ntmps12
    go_wp2
    go_ret
    exact ⟨rfl, rfl⟩
  by_cases h3 : k = 3
  · subst h3
    go_enter Tryd.func12, Tryd.ntmps12
    go_wp2
    go_ret
    exact ⟨rfl, rfl⟩
  by_cases h5 : k = 5
  · subst h5
    go_enter Tryd.func12, Tryd.ntmps12
    go_wp2
    go_ret
    exact ⟨rfl, rfl⟩
  by_cases h4 : k = 4
  · subst h4
    go_enter Tryd.func12, Tryd.ntmps12
    go_wp2
    go_ret
    exact ⟨rfl, rfl⟩
  by_cases h6 : k = 6
  · subst h6
    go_enter Tryd.func12, Tryd.ntmps12
    go_wp2
    go_ret
    exact ⟨rfl, rfl⟩
  have hu : used k = -1 := by simp [used, h1, h2, h3, h4, h5, h6]
  rw [hu]
  go_enter Tryd.func12, Tryd.ntmps12
  go_wp2
  go_ret
  exact ⟨rfl, rfl⟩
end Go.Proofs.YtnapannphldglaaDoor
