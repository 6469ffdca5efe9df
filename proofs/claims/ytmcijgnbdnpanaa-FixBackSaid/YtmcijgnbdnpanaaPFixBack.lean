/- The law FixBack holds: for every input it returns true and its arguments read as they did; no condition. -/
import Derived.Test.YtmcijgnbdnpanaaRows
import Derived.WalkKit
import Derived.ProofKit
import Derived.OpenShut
import Derived.ShutString
import Derived.Below
import Derived.Test.YtmcijgnbdnpanaaRowZ
import Derived.Test.YtmcijgnbdnpanaaRowQ
import Derived.Test.YtmcijgnbdnpanaaRowA
import Derived.Test.YtmcijgnbdnpanaaFixL
namespace Go.Proofs.Ytmcijgnbdnpanaa.fixBack
open Go.Proofs.Ytmcijgnbdnpanaa
open Go.ChangeShapes Go.WideShapes Go.ChangeAt Go.RowKit
open Go.ChangeMaps (open_string shut_string)
set_option linter.unusedVariables false

theorem own : ownKnob Try.prog.godebug = none := by kernel_rfl
theorem laidOut : laidOutB Try.prog = true := by kernel_rfl

theorem walk (a0 : Int) (p1 q1 : Nat) (b2 : Bool) (a2 : Option Addr) (len2 cap2 : Nat) (z2 : List Int) (g2 : Option Addr) (lem2 cup2 : Nat) (y2 : List Int) (w : World) (w0 : (Lit.int .i64 a0).wf = true) (w1 : p1 < 65536 ∧ q1 < 65536) (w2 : IsRow64 w a2 len2 cap2 z2) (x2 : IsRow64 w g2 lem2 cup2 y2) :
    Calls Try.prog 5 #[.int .i64 a0, .agg #[.int .u16 (p1 : Int), .int .u16 (q1 : Int)], .agg #[.bool b2, .slice a2 len2 cap2, .slice g2 lem2 cup2]] w fun e w' => e = .returned (.bool true) ∧ Below w.heap.size w w' := by
  have hv := bounds_i64 w0
  have hv1 : -9223372036854775808 ≤ a0 := hv.1
  have hv2 : a0 ≤ 9223372036854775807 := hv.2
  obtain ⟨l, r1, t1, e1, _⟩ := w2.rd
  obtain ⟨k, r2, t2, e2, _⟩ := x2.rd
  exact law_back a0 p1 q1 b2 a2 g2 len2 cap2 lem2 cup2 l k r1 r2 t1 t2 e1 e2 w1.1 hv1 (by omega)

set_option maxRecDepth 100000 in
theorem lifted (os : Os) (started : os.Started) (H : Type) (enc : TypeId × Value → H) :
    ReturnsInHanded {} Try.checked os 5 .any (Rows.fixBackSpec.pre6 enc Try.prog Try.f5 Rows.fixBackRow.domain false) (Rows.fixBackSpec.post enc Try.prog Try.f5 false true false false) := by
  refine returnsInHanded_of_change (C := Try.checked) own started (by kernel_rfl) Try.func5
    (ChangeSpec.witness6 (enc := enc) (C := Try.checked) false ⟨#[], #[.int .i64 0, .agg #[.int .u16 0, .int .u16 0], .agg #[.bool false, .slice none 0 0, .slice none 0 0]], []⟩ 8 (by kernel_rfl) (by kernel_rfl) (by kernel_rfl) (by kernel_rfl)) ?_
  intro W base args ds gs before hval0 hW hcnd _
  have hval : ∀ (j : Nat) t v, Try.f5.params[j]? = some t → args[j]? = some v → Value.okWide Try.prog W .any base t v := hval0
  have hW' := hW
  obtain ⟨p, q, hA0, hV, rfl, hfz, hnd⟩ := hW
  have hA : DataW.TrodAll enc Try.prog W 0 (fun _ => true) true Try.f5.params.toList args.toList ds p := hA0
  rw [Try.params5] at hA hval
  obtain ⟨v0, vs0, d0, ds0, p0, q0, hargs, rfl, rfl, h0, r0⟩ := trodAll_cons hA
  obtain ⟨v1, vs1, d1, ds1, p1, q1, rfl, rfl, rfl, h1, r1⟩ := trodAll_cons r0
  obtain ⟨v2, vs2, d2, ds2, p2, q2, rfl, rfl, rfl, h2, r2⟩ := trodAll_cons r1
  obtain ⟨rfl, rfl, rfl⟩ := trodAll_nil r2
  obtain rfl : args = #[v0, v1, v2] := by cases args; simp_all
  obtain ⟨rfl, rfl⟩ := trodVars_none hV
  obtain ⟨a0, rfl, rfl, rfl, w0⟩ := open_int Try.underlying2 (hval 0 2 v0 rfl rfl) h0
  have k1 := h1
  have lt1 : ∀ x ∈ p1, x.block < W.heap.size := by obtain ⟨m, hm⟩ := k1; exact DataW.trod_lt m _ _ _ hm
  obtain ⟨p_1, q_1, rfl, w1⟩ := open_w2 (hval 1 42 v1 rfl rfl) h1
  have k2 := h2
  have lt2 : ∀ x ∈ p2, x.block < W.heap.size := by obtain ⟨m, hm⟩ := k2; exact DataW.trod_lt m _ _ _ hm
  obtain ⟨b2, a2, len2, cap2, z2, g2, lem2, cup2, y2, rfl, w2, x2⟩ := open_zrat (hval 2 26 v2 rfl rfl) h2
  clear hA0 hval0
  refine (walk a0 p_1 q_1 b2 a2 len2 cap2 z2 g2 lem2 cup2 y2 W w0 w1 w2 x2).mono fun e W' ⟨he, bel⟩ => ?_
  subst he
  exact ⟨_, rfl, _, _, _, [], _, [], hW', trodAll_mk1 (shut_bool Try.underlying4 _), (trodAll_cons_mk (shut_int Try.underlying2 w0) (trodAll_cons_mk (Below.trod laidOut (by kernel_rfl) (of_decide_eq_true (by kernel_rfl)) k1 bel lt1) (trodAll_cons_mk (Below.trod laidOut (by kernel_rfl) (of_decide_eq_true (by kernel_rfl)) k2 bel lt2) trodAll_mk0))), rfl, bel.frame _, fun h => by cases h⟩

theorem over : Rows.fixBackRow.holds Try.pinned (OpenSpec.ofChange Rows.fixBackSpec) :=
  OpenClaim.holds_of_wide 5 Try.f5 rfl rfl rfl rfl rfl rfl rfl ⟨rfl, rfl, rfl, rfl, rfl⟩ rfl rfl rfl rfl rfl (by kernel_rfl) Try.func5 (by kernel_rfl)
    (of_decide_eq_true (by kernel_rfl)) (by unfold Func.isWrapper; first | (rw [if_pos (by decide +kernel)]; kernel_rfl) | (rw [if_neg (by decide +kernel)]; exact ⟨rfl, rfl⟩))
    (fun os started H enc _ => lifted os started H enc)

/-- The statement. -/
theorem proved : Rows.FixBackSaid := over
end Go.Proofs.Ytmcijgnbdnpanaa.fixBack
namespace Go.Proofs.Ytmcijgnbdnpanaa
/-- The statement. -/
theorem fixBack_holds : Rows.FixBackSaid := fixBack.proved
end Go.Proofs.Ytmcijgnbdnpanaa
