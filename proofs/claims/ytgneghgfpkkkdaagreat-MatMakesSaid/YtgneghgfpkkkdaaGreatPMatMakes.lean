/- The law MatMakes holds: for every input it returns true and its arguments read as they did; no condition. -/
import Derived.Test.YtgneghgfpkkkdaaGreatRows
import Derived.WalkKit
import Derived.ProofKit
import Derived.OpenShut
import Derived.ShutString
import Derived.Below
import Derived.Test.YtgneghgfpkkkdaaGreatKMatMakes0
import Derived.Test.YtgneghgfpkkkdaaGreatKMatMakes15
namespace Go.Proofs.YtgneghgfpkkkdaaGreat.matMakes
open Go.Proofs.YtgneghgfpkkkdaaGreat
open Go.ChangeShapes Go.WideShapes Go.ChangeAt Go.RowKit
open Go.ChangeMaps (open_string shut_string)
set_option linter.unusedVariables false

theorem own : ownKnob Tryz.prog.godebug = none := by kernel_rfl
theorem laidOut : laidOutB Tryz.prog = true := by kernel_rfl

theorem walk (n00 n01 n02 n03 n04 n05 : Int) (w : World) (w0 : (-9223372036854775808 ≤ n00 ∧ n00 < 9223372036854775808) ∧ (-9223372036854775808 ≤ n01 ∧ n01 < 9223372036854775808) ∧ (-9223372036854775808 ≤ n02 ∧ n02 < 9223372036854775808) ∧ (-9223372036854775808 ≤ n03 ∧ n03 < 9223372036854775808) ∧ (-9223372036854775808 ≤ n04 ∧ n04 < 9223372036854775808) ∧ (-9223372036854775808 ≤ n05 ∧ n05 < 9223372036854775808)) :
    Calls Tryz.prog 7 #[.agg #[.int .i64 n00, .int .i64 n01, .int .i64 n02, .int .i64 n03, .int .i64 n04, .int .i64 n05]] w fun e w' => e = .returned (.bool true) ∧ Below w.heap.size w w' := by
  exact law_makes9 n00 n01 n02 n03 n04 n05 w0.1.1 w0.1.2 w0.2.1.1 w0.2.1.2 w0.2.2.1.1 w0.2.2.1.2 w0.2.2.2.1.1 w0.2.2.2.1.2 w0.2.2.2.2.1.1 w0.2.2.2.2.1.2 w0.2.2.2.2.2.1 w0.2.2.2.2.2.2 w

set_option maxRecDepth 100000 in
theorem lifted (os : Os) (started : os.Started) (H : Type) (enc : TypeId × Value → H) :
    ReturnsInHanded {} Tryz.checked os 7 .any (Rows.matMakesSpec.pre6 enc Tryz.prog Tryz.f7 Rows.matMakesRow.domain false) (Rows.matMakesSpec.post enc Tryz.prog Tryz.f7 false true false false) := by
  refine returnsInHanded_of_change (C := Tryz.checked) own started (by kernel_rfl) Tryz.func7
    (ChangeSpec.witness6 (enc := enc) (C := Tryz.checked) false ⟨#[], #[.agg #[.int .i64 0, .int .i64 0, .int .i64 0, .int .i64 0, .int .i64 0, .int .i64 0]], []⟩ 8 (by kernel_rfl) (by kernel_rfl) (by kernel_rfl) (by kernel_rfl)) ?_
  intro W base args ds gs before hval0 hW hcnd _
  have hval : ∀ (j : Nat) t v, Tryz.f7.params[j]? = some t → args[j]? = some v → Value.okWide Tryz.prog W .any base t v := hval0
  have hW' := hW
  obtain ⟨p, q, hA0, hV, rfl, hfz, hnd⟩ := hW
  have hA : DataW.TrodAll enc Tryz.prog W 0 (fun _ => true) true Tryz.f7.params.toList args.toList ds p := hA0
  rw [Tryz.params7] at hA hval
  obtain ⟨v0, vs0, d0, ds0, p0, q0, hargs, rfl, rfl, h0, r0⟩ := trodAll_cons hA
  obtain ⟨rfl, rfl, rfl⟩ := trodAll_nil r0
  obtain rfl : args = #[v0] := by cases args; simp_all
  obtain ⟨rfl, rfl⟩ := trodVars_none hV
  have k0 := h0
  have lt0 : ∀ x ∈ p0, x.block < W.heap.size := by obtain ⟨m, hm⟩ := k0; exact DataW.trod_lt m _ _ _ hm
  obtain ⟨n00, n01, n02, n03, n04, n05, rfl, w0⟩ := open_l6 (hval 0 91 v0 rfl rfl) h0
  clear hA0 hval0
  refine (walk n00 n01 n02 n03 n04 n05 W w0).mono fun e W' ⟨he, bel⟩ => ?_
  subst he
  exact ⟨_, rfl, _, _, _, [], _, [], hW', trodAll_mk1 (shut_bool Tryz.underlying4 _), (trodAll_cons_mk (Below.trod laidOut (by kernel_rfl) (of_decide_eq_true (by kernel_rfl)) k0 bel lt0) trodAll_mk0), rfl, bel.frame _, fun h => by cases h⟩

theorem over : Rows.matMakesRow.holds Tryz.pinned (OpenSpec.ofChange Rows.matMakesSpec) :=
  OpenClaim.holds_of_wide 7 Tryz.f7 rfl rfl rfl rfl rfl rfl rfl ⟨rfl, rfl, rfl, rfl, rfl⟩ rfl rfl rfl rfl rfl (by kernel_rfl) Tryz.func7 (by kernel_rfl)
    (of_decide_eq_true (by kernel_rfl)) (by unfold Func.isWrapper; first | (rw [if_pos (by decide +kernel)]; kernel_rfl) | (rw [if_neg (by decide +kernel)]; exact ⟨rfl, rfl⟩))
    (fun os started H enc _ => lifted os started H enc)

/-- The statement. -/
theorem proved : Rows.MatMakesSaid := over
end Go.Proofs.YtgneghgfpkkkdaaGreat.matMakes
namespace Go.Proofs.YtgneghgfpkkkdaaGreat
/-- The statement. -/
theorem matMakes_holds : Rows.MatMakesSaid := matMakes.proved
end Go.Proofs.YtgneghgfpkkkdaaGreat
