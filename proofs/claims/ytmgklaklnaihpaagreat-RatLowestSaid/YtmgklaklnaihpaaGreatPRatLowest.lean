/- The law RatLowest holds: for every input it returns true and its arguments read as they did; no condition. -/
import Derived.Test.YtmgklaklnaihpaaGreatRows
import Derived.WalkKit
import Derived.ProofKit
import Derived.OpenShut
import Derived.ShutString
import Derived.Below
import Derived.Test.YtmgklaklnaihpaaGreatKRatLowest0
import Derived.Test.YtmgklaklnaihpaaGreatKRatLowest9
namespace Go.Proofs.YtmgklaklnaihpaaGreat.ratLowest
open Go.Proofs.YtmgklaklnaihpaaGreat
open Go.ChangeShapes Go.WideShapes Go.ChangeAt Go.RowKit
open Go.ChangeMaps (open_string shut_string)
set_option linter.unusedVariables false

theorem own : ownKnob Tryz.prog.godebug = none := by kernel_rfl
theorem laidOut : laidOutB Tryz.prog = true := by kernel_rfl

theorem walk (b0 : Bool) (a0 : Option Addr) (len0 cap0 : Nat) (z0 : List Int) (g0 : Option Addr) (lem0 cup0 : Nat) (y0 : List Int) (b1 : Bool) (a1 : Option Addr) (len1 cap1 : Nat) (z1 : List Int) (g1 : Option Addr) (lem1 cup1 : Nat) (y1 : List Int) (a2 : Int) (w : World) (w0 : IsRow64 w a0 len0 cap0 z0) (x0 : IsRow64 w g0 lem0 cup0 y0) (w1 : IsRow64 w a1 len1 cap1 z1) (x1 : IsRow64 w g1 lem1 cup1 y1) (w2 : (Lit.int .u16 a2).wf = true) :
    Calls Tryz.prog 4 #[.agg #[.bool b0, .slice a0 len0 cap0, .slice g0 lem0 cup0], .agg #[.bool b1, .slice a1 len1 cap1, .slice g1 lem1 cup1], .int .u16 a2] w fun e w' => e = .returned (.bool true) ∧ Below w.heap.size w w' := by
  obtain ⟨l0, p0, t0, e0, _⟩ := w0.rd
  obtain ⟨k0, q0, u0, f0, _⟩ := x0.rd
  obtain ⟨l1, p1, t1, e1, _⟩ := w1.rd
  obtain ⟨k1, q1, u1, f1, _⟩ := x1.rd
  have hw := bounds_u16 w2
  obtain ⟨t, rfl⟩ : ∃ t : Nat, a2 = (t : Int) := ⟨a2.toNat, by omega⟩
  exact law_lowest t p0 q0 p1 q1 t0 u0 t1 u1 e0 f0 e1 f1 (by omega)

set_option maxRecDepth 100000 in
theorem lifted (os : Os) (started : os.Started) (H : Type) (enc : TypeId × Value → H) :
    ReturnsInHanded {} Tryz.checked os 4 .any (Rows.ratLowestSpec.pre6 enc Tryz.prog Tryz.f4 Rows.ratLowestRow.domain false) (Rows.ratLowestSpec.post enc Tryz.prog Tryz.f4 false true false false) := by
  refine returnsInHanded_of_change (C := Tryz.checked) own started (by kernel_rfl) Tryz.func4
    (ChangeSpec.witness6 (enc := enc) (C := Tryz.checked) false ⟨#[], #[.agg #[.bool false, .slice none 0 0, .slice none 0 0], .agg #[.bool false, .slice none 0 0, .slice none 0 0], .int .u16 0], []⟩ 8 (by kernel_rfl) (by kernel_rfl) (by kernel_rfl) (by kernel_rfl)) ?_
  intro W base args ds gs before hval0 hW hcnd _
  have hval : ∀ (j : Nat) t v, Tryz.f4.params[j]? = some t → args[j]? = some v → Value.okWide Tryz.prog W .any base t v := hval0
  have hW' := hW
  obtain ⟨p, q, hA0, hV, rfl, hfz, hnd⟩ := hW
  have hA : DataW.TrodAll enc Tryz.prog W 0 (fun _ => true) true Tryz.f4.params.toList args.toList ds p := hA0
  rw [Tryz.params4] at hA hval
  obtain ⟨v0, vs0, d0, ds0, p0, q0, hargs, rfl, rfl, h0, r0⟩ := trodAll_cons hA
  obtain ⟨v1, vs1, d1, ds1, p1, q1, rfl, rfl, rfl, h1, r1⟩ := trodAll_cons r0
  obtain ⟨v2, vs2, d2, ds2, p2, q2, rfl, rfl, rfl, h2, r2⟩ := trodAll_cons r1
  obtain ⟨rfl, rfl, rfl⟩ := trodAll_nil r2
  obtain rfl : args = #[v0, v1, v2] := by cases args; simp_all
  obtain ⟨rfl, rfl⟩ := trodVars_none hV
  have k0 := h0
  have lt0 : ∀ x ∈ p0, x.block < W.heap.size := by obtain ⟨m, hm⟩ := k0; exact DataW.trod_lt m _ _ _ hm
  obtain ⟨b0, a0, len0, cap0, z0, g0, lem0, cup0, y0, rfl, w0, x0⟩ := open_zrat (hval 0 26 v0 rfl rfl) h0
  have k1 := h1
  have lt1 : ∀ x ∈ p1, x.block < W.heap.size := by obtain ⟨m, hm⟩ := k1; exact DataW.trod_lt m _ _ _ hm
  obtain ⟨b1, a1, len1, cap1, z1, g1, lem1, cup1, y1, rfl, w1, x1⟩ := open_zrat (hval 1 26 v1 rfl rfl) h1
  obtain ⟨a2, rfl, rfl, rfl, w2⟩ := open_int Tryz.underlying45 (hval 2 45 v2 rfl rfl) h2
  clear hA0 hval0
  refine (walk b0 a0 len0 cap0 z0 g0 lem0 cup0 y0 b1 a1 len1 cap1 z1 g1 lem1 cup1 y1 a2 W w0 x0 w1 x1 w2).mono fun e W' ⟨he, bel⟩ => ?_
  subst he
  exact ⟨_, rfl, _, _, _, [], _, [], hW', trodAll_mk1 (shut_bool Tryz.underlying4 _), (trodAll_cons_mk (Below.trod laidOut (by kernel_rfl) (of_decide_eq_true (by kernel_rfl)) k0 bel lt0) (trodAll_cons_mk (Below.trod laidOut (by kernel_rfl) (of_decide_eq_true (by kernel_rfl)) k1 bel lt1) (trodAll_cons_mk (shut_int Tryz.underlying45 w2) trodAll_mk0))), rfl, bel.frame _, fun h => by cases h⟩

theorem over : Rows.ratLowestRow.holds Tryz.pinned (OpenSpec.ofChange Rows.ratLowestSpec) :=
  OpenClaim.holds_of_wide 4 Tryz.f4 rfl rfl rfl rfl rfl rfl rfl ⟨rfl, rfl, rfl, rfl, rfl⟩ rfl rfl rfl rfl rfl (by kernel_rfl) Tryz.func4 (by kernel_rfl)
    (of_decide_eq_true (by kernel_rfl)) (by unfold Func.isWrapper; first | (rw [if_pos (by decide +kernel)]; kernel_rfl) | (rw [if_neg (by decide +kernel)]; exact ⟨rfl, rfl⟩))
    (fun os started H enc _ => lifted os started H enc)

/-- The statement. -/
theorem proved : Rows.RatLowestSaid := over
end Go.Proofs.YtmgklaklnaihpaaGreat.ratLowest
namespace Go.Proofs.YtmgklaklnaihpaaGreat
/-- The statement. -/
theorem ratLowest_holds : Rows.RatLowestSaid := ratLowest.proved
end Go.Proofs.YtmgklaklnaihpaaGreat
