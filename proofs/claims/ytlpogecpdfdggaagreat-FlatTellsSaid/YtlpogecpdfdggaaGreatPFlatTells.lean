/- The law FlatTells holds: for every input it returns true and its arguments read as they did; no condition. -/
import Derived.Test.YtlpogecpdfdggaaGreatRows
import Derived.WalkKit
import Derived.ProofKit
import Derived.OpenShut
import Derived.ShutString
import Derived.Below
import Derived.Test.YtlpogecpdfdggaaGreatKFlatTells0
import Derived.Test.YtlpogecpdfdggaaGreatKFlatTells19
namespace Go.Proofs.YtlpogecpdfdggaaGreat.flatTells
open Go.Proofs.YtlpogecpdfdggaaGreat
open Go.ChangeShapes Go.WideShapes Go.ChangeAt Go.RowKit
open Go.ChangeMaps (open_string shut_string)
set_option linter.unusedVariables false

theorem own : ownKnob Tryz.prog.godebug = none := by kernel_rfl
theorem laidOut : laidOutB Tryz.prog = true := by kernel_rfl

theorem walk (a0 : Option Addr) (len0 cap0 : Nat) (L0 : List HV) (b1 : Bool) (a1 : Option Addr) (len1 cap1 : Nat) (z1 : List Int) (g1 : Option Addr) (lem1 cup1 : Nat) (y1 : List Int) (w : World) (w0 : SV w a0 (hvs L0)) (x0 : L0.length = len0) (y0 : len0 ≤ cap0) (m0 : len0 ≤ maxLen) (z0 : ∀ q ∈ L0, q.Raw w) (w1 : IsRow64 w a1 len1 cap1 z1) (x1 : IsRow64 w g1 lem1 cup1 y1) :
    Calls Tryz.prog 3 #[.slice a0 len0 cap0, .agg #[.bool b1, .slice a1 len1 cap1, .slice g1 lem1 cup1]] w fun e w' => e = .returned (.bool true) ∧ Below w.heap.size w w' := by
  obtain ⟨_, p1, s1, e1, _⟩ := w1.rd
  obtain ⟨_, q1, u1, f1, _⟩ := x1.rd
  exact law_ftl w0 x0 y0 m0 z0 p1 q1 s1 u1 e1 f1

set_option maxRecDepth 100000 in
theorem lifted (os : Os) (started : os.Started) (H : Type) (enc : TypeId × Value → H) :
    ReturnsInHanded {} Tryz.checked os 3 .any (Rows.flatTellsSpec.pre6 enc Tryz.prog Tryz.f3 Rows.flatTellsRow.domain false) (Rows.flatTellsSpec.post enc Tryz.prog Tryz.f3 false true false false) := by
  refine returnsInHanded_of_change (C := Tryz.checked) own started (by kernel_rfl) Tryz.func3
    (ChangeSpec.witness6 (enc := enc) (C := Tryz.checked) false ⟨#[], #[.slice none 0 0, .agg #[.bool false, .slice none 0 0, .slice none 0 0]], []⟩ 8 (by kernel_rfl) (by kernel_rfl) (by kernel_rfl) (by kernel_rfl)) ?_
  intro W base args ds gs before hval0 hW hcnd _
  have hval : ∀ (j : Nat) t v, Tryz.f3.params[j]? = some t → args[j]? = some v → Value.okWide Tryz.prog W .any base t v := hval0
  have hW' := hW
  obtain ⟨p, q, hA0, hV, rfl, hfz, hnd⟩ := hW
  have hA : DataW.TrodAll enc Tryz.prog W 0 (fun _ => true) true Tryz.f3.params.toList args.toList ds p := hA0
  rw [Tryz.params3] at hA hval
  obtain ⟨v0, vs0, d0, ds0, p0, q0, hargs, rfl, rfl, h0, r0⟩ := trodAll_cons hA
  obtain ⟨v1, vs1, d1, ds1, p1, q1, rfl, rfl, rfl, h1, r1⟩ := trodAll_cons r0
  obtain ⟨rfl, rfl, rfl⟩ := trodAll_nil r1
  obtain rfl : args = #[v0, v1] := by cases args; simp_all
  obtain ⟨rfl, rfl⟩ := trodVars_none hV
  have k0 := h0
  have lt0 : ∀ x ∈ p0, x.block < W.heap.size := by obtain ⟨m, hm⟩ := k0; exact DataW.trod_lt m _ _ _ hm
  obtain ⟨a0, len0, cap0, L0, rfl, w0, x0, y0, m0, z0⟩ := open_zhoms (hval 0 22 v0 rfl rfl) h0
  have k1 := h1
  have lt1 : ∀ x ∈ p1, x.block < W.heap.size := by obtain ⟨m, hm⟩ := k1; exact DataW.trod_lt m _ _ _ hm
  obtain ⟨b1, a1, len1, cap1, z1, g1, lem1, cup1, y1, rfl, w1, x1⟩ := open_zrat (hval 1 27 v1 rfl rfl) h1
  clear hA0 hval0
  refine (walk a0 len0 cap0 L0 b1 a1 len1 cap1 z1 g1 lem1 cup1 y1 W w0 x0 y0 m0 z0 w1 x1).mono fun e W' ⟨he, bel⟩ => ?_
  subst he
  exact ⟨_, rfl, _, _, _, [], _, [], hW', trodAll_mk1 (shut_bool Tryz.underlying4 _), (trodAll_cons_mk (Below.trod laidOut (by kernel_rfl) (of_decide_eq_true (by kernel_rfl)) k0 bel lt0) (trodAll_cons_mk (Below.trod laidOut (by kernel_rfl) (of_decide_eq_true (by kernel_rfl)) k1 bel lt1) trodAll_mk0)), rfl, bel.frame _, fun h => by cases h⟩

theorem over : Rows.flatTellsRow.holds Tryz.pinned (OpenSpec.ofChange Rows.flatTellsSpec) :=
  OpenClaim.holds_of_wide 3 Tryz.f3 rfl rfl rfl rfl rfl rfl rfl ⟨rfl, rfl, rfl, rfl, rfl⟩ rfl rfl rfl rfl rfl (by kernel_rfl) Tryz.func3 (by kernel_rfl)
    (of_decide_eq_true (by kernel_rfl)) (by unfold Func.isWrapper; first | (rw [if_pos (by decide +kernel)]; kernel_rfl) | (rw [if_neg (by decide +kernel)]; exact ⟨rfl, rfl⟩))
    (fun os started H enc _ => lifted os started H enc)

/-- The statement. -/
theorem proved : Rows.FlatTellsSaid := over
end Go.Proofs.YtlpogecpdfdggaaGreat.flatTells
namespace Go.Proofs.YtlpogecpdfdggaaGreat
/-- The statement. -/
theorem flatTells_holds : Rows.FlatTellsSaid := flatTells.proved
end Go.Proofs.YtlpogecpdfdggaaGreat
