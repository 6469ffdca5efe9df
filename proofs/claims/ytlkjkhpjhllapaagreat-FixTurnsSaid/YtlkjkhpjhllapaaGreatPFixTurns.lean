/- The law FixTurns holds: for every input it returns true and its arguments read as they did; no condition. -/
import Derived.Test.YtlkjkhpjhllapaaGreatRows
import Derived.WalkKit
import Derived.ProofKit
import Derived.OpenShut
import Derived.ShutString
import Derived.Below
import Derived.Test.YtlkjkhpjhllapaaGreatKFixTurns0
import Derived.Test.YtlkjkhpjhllapaaGreatKFixTurns13
namespace Go.Proofs.YtlkjkhpjhllapaaGreat.fixTurns
open Go.Proofs.YtlkjkhpjhllapaaGreat
open Go.ChangeShapes Go.WideShapes Go.ChangeAt Go.RowKit
open Go.ChangeMaps (open_string shut_string)
set_option linter.unusedVariables false

theorem own : ownKnob Tryz.prog.godebug = none := by kernel_rfl
theorem laidOut : laidOutB Tryz.prog = true := by kernel_rfl

theorem walk (a0 : Int) (a1 : Int) (b2 : Bool) (a2 : Option Addr) (len2 cap2 : Nat) (z2 : List Int) (g2 : Option Addr) (lem2 cup2 : Nat) (y2 : List Int) (w : World) (w0 : (Lit.int .i64 a0).wf = true) (w1 : (Lit.int .i64 a1).wf = true) (w2 : IsRow64 w a2 len2 cap2 z2) (x2 : IsRow64 w g2 lem2 cup2 y2) :
    Calls Tryz.prog 8 #[.int .i64 a0, .int .i64 a1, .agg #[.bool b2, .slice a2 len2 cap2, .slice g2 lem2 cup2]] w fun e w' => e = .returned (.bool true) ∧ Below w.heap.size w w' := by
  have hv := bounds_i64 w0
  have hv1 : -9223372036854775808 ≤ a0 := hv.1
  have hv2 : a0 ≤ 9223372036854775807 := hv.2
  have hu := bounds_i64 w1
  have hu1 : -9223372036854775808 ≤ a1 := hu.1
  have hu2 : a1 ≤ 9223372036854775807 := hu.2
  obtain ⟨l, r1, t1, e1, _⟩ := w2.rd
  obtain ⟨k, r2, t2, e2, _⟩ := x2.rd
  exact law_turns a0 a1 b2 a2 g2 len2 cap2 lem2 cup2 l k hv1 (by omega) hu1 (by omega) r1 r2 t1 t2 e1 e2

set_option maxRecDepth 100000 in
theorem lifted (os : Os) (started : os.Started) (H : Type) (enc : TypeId × Value → H) :
    ReturnsInHanded {} Tryz.checked os 8 .any (Rows.fixTurnsSpec.pre6 enc Tryz.prog Tryz.f8 Rows.fixTurnsRow.domain false) (Rows.fixTurnsSpec.post enc Tryz.prog Tryz.f8 false true false false) := by
  refine returnsInHanded_of_change (C := Tryz.checked) own started (by kernel_rfl) Tryz.func8
    (ChangeSpec.witness6 (enc := enc) (C := Tryz.checked) false ⟨#[], #[.int .i64 0, .int .i64 0, .agg #[.bool false, .slice none 0 0, .slice none 0 0]], []⟩ 8 (by kernel_rfl) (by kernel_rfl) (by kernel_rfl) (by kernel_rfl)) ?_
  intro W base args ds gs before hval0 hW hcnd _
  have hval : ∀ (j : Nat) t v, Tryz.f8.params[j]? = some t → args[j]? = some v → Value.okWide Tryz.prog W .any base t v := hval0
  have hW' := hW
  obtain ⟨p, q, hA0, hV, rfl, hfz, hnd⟩ := hW
  have hA : DataW.TrodAll enc Tryz.prog W 0 (fun _ => true) true Tryz.f8.params.toList args.toList ds p := hA0
  rw [Tryz.params8] at hA hval
  obtain ⟨v0, vs0, d0, ds0, p0, q0, hargs, rfl, rfl, h0, r0⟩ := trodAll_cons hA
  obtain ⟨v1, vs1, d1, ds1, p1, q1, rfl, rfl, rfl, h1, r1⟩ := trodAll_cons r0
  obtain ⟨v2, vs2, d2, ds2, p2, q2, rfl, rfl, rfl, h2, r2⟩ := trodAll_cons r1
  obtain ⟨rfl, rfl, rfl⟩ := trodAll_nil r2
  obtain rfl : args = #[v0, v1, v2] := by cases args; simp_all
  obtain ⟨rfl, rfl⟩ := trodVars_none hV
  obtain ⟨a0, rfl, rfl, rfl, w0⟩ := open_int Tryz.underlying2 (hval 0 2 v0 rfl rfl) h0
  obtain ⟨a1, rfl, rfl, rfl, w1⟩ := open_int Tryz.underlying2 (hval 1 2 v1 rfl rfl) h1
  have k2 := h2
  have lt2 : ∀ x ∈ p2, x.block < W.heap.size := by obtain ⟨m, hm⟩ := k2; exact DataW.trod_lt m _ _ _ hm
  obtain ⟨b2, a2, len2, cap2, z2, g2, lem2, cup2, y2, rfl, w2, x2⟩ := open_zrat (hval 2 26 v2 rfl rfl) h2
  clear hA0 hval0
  refine (walk a0 a1 b2 a2 len2 cap2 z2 g2 lem2 cup2 y2 W w0 w1 w2 x2).mono fun e W' ⟨he, bel⟩ => ?_
  subst he
  exact ⟨_, rfl, _, _, _, [], _, [], hW', trodAll_mk1 (shut_bool Tryz.underlying4 _), (trodAll_cons_mk (shut_int Tryz.underlying2 w0) (trodAll_cons_mk (shut_int Tryz.underlying2 w1) (trodAll_cons_mk (Below.trod laidOut (by kernel_rfl) (of_decide_eq_true (by kernel_rfl)) k2 bel lt2) trodAll_mk0))), rfl, bel.frame _, fun h => by cases h⟩

theorem over : Rows.fixTurnsRow.holds Tryz.pinned (OpenSpec.ofChange Rows.fixTurnsSpec) :=
  OpenClaim.holds_of_wide 8 Tryz.f8 rfl rfl rfl rfl rfl rfl rfl ⟨rfl, rfl, rfl, rfl, rfl⟩ rfl rfl rfl rfl rfl (by kernel_rfl) Tryz.func8 (by kernel_rfl)
    (of_decide_eq_true (by kernel_rfl)) (by unfold Func.isWrapper; first | (rw [if_pos (by decide +kernel)]; kernel_rfl) | (rw [if_neg (by decide +kernel)]; exact ⟨rfl, rfl⟩))
    (fun os started H enc _ => lifted os started H enc)

/-- The statement. -/
theorem proved : Rows.FixTurnsSaid := over
end Go.Proofs.YtlkjkhpjhllapaaGreat.fixTurns
namespace Go.Proofs.YtlkjkhpjhllapaaGreat
/-- The statement. -/
theorem fixTurns_holds : Rows.FixTurnsSaid := fixTurns.proved
end Go.Proofs.YtlkjkhpjhllapaaGreat
