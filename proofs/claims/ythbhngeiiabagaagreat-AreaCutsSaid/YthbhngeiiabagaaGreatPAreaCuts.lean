/- The law AreaCuts holds: for every input it returns true and its arguments read as they did; no condition. -/
import Derived.Test.YthbhngeiiabagaaGreatRows
import Derived.WalkKit
import Derived.ProofKit
import Derived.OpenShut
import Derived.ShutString
import Derived.Below
import Derived.Test.YthbhngeiiabagaaGreatKAreaCuts0
import Derived.Test.YthbhngeiiabagaaGreatKAreaCuts14
import Derived.Test.YthbhngeiiabagaaGreatKAreaCuts20
namespace Go.Proofs.YthbhngeiiabagaaGreat.areaCuts
open Go.Proofs.YthbhngeiiabagaaGreat
open Go.ChangeShapes Go.WideShapes Go.ChangeAt Go.RowKit
open Go.ChangeMaps (open_string shut_string)
set_option linter.unusedVariables false

theorem own : ownKnob Tryz.prog.godebug = none := by kernel_rfl
theorem laidOut : laidOutB Tryz.prog = true := by kernel_rfl

theorem walk (a0 : Option Addr) (len0 cap0 : Nat) (L0 : List PV) (b10 : Bool) (a10 : Option Addr) (len10 cap10 : Nat) (z10 : List Int) (g10 : Option Addr) (lem10 cup10 : Nat) (y10 : List Int) (sb10 : Bool) (E10 : Option Addr) (lin10 cin10 : Nat) (zz10 : List Int) (F10 : Option Addr) (lom10 cum10 : Nat) (yy10 : List Int) (b11 : Bool) (a11 : Option Addr) (len11 cap11 : Nat) (z11 : List Int) (g11 : Option Addr) (lem11 cup11 : Nat) (y11 : List Int) (sb11 : Bool) (E11 : Option Addr) (lin11 cin11 : Nat) (zz11 : List Int) (F11 : Option Addr) (lom11 cum11 : Nat) (yy11 : List Int) (b12 : Bool) (a12 : Option Addr) (len12 cap12 : Nat) (z12 : List Int) (g12 : Option Addr) (lem12 cup12 : Nat) (y12 : List Int) (sb12 : Bool) (E12 : Option Addr) (lin12 cin12 : Nat) (zz12 : List Int) (F12 : Option Addr) (lom12 cum12 : Nat) (yy12 : List Int) (w : World) (w0 : SV w a0 (pvs L0)) (x0 : L0.length = len0) (y0 : len0 ≤ cap0) (z0 : ∀ q ∈ L0, q.Raw w) (w10 : IsRow64 w a10 len10 cap10 z10) (x10 : IsRow64 w g10 lem10 cup10 y10) (ww10 : IsRow64 w E10 lin10 cin10 zz10) (xx10 : IsRow64 w F10 lom10 cum10 yy10) (w11 : IsRow64 w a11 len11 cap11 z11) (x11 : IsRow64 w g11 lem11 cup11 y11) (ww11 : IsRow64 w E11 lin11 cin11 zz11) (xx11 : IsRow64 w F11 lom11 cum11 yy11) (w12 : IsRow64 w a12 len12 cap12 z12) (x12 : IsRow64 w g12 lem12 cup12 y12) (ww12 : IsRow64 w E12 lin12 cin12 zz12) (xx12 : IsRow64 w F12 lom12 cum12 yy12) :
    Calls Tryz.prog 3 #[.slice a0 len0 cap0, .agg #[.bool b10, .slice a10 len10 cap10, .slice g10 lem10 cup10, .bool sb10, .slice E10 lin10 cin10, .slice F10 lom10 cum10, .bool b11, .slice a11 len11 cap11, .slice g11 lem11 cup11, .bool sb11, .slice E11 lin11 cin11, .slice F11 lom11 cum11, .bool b12, .slice a12 len12 cap12, .slice g12 lem12 cup12, .bool sb12, .slice E12 lin12 cin12, .slice F12 lom12 cum12]] w fun e w' => e = .returned (.bool true) ∧ Below w.heap.size w w' := by
  obtain ⟨_, p10, s10, e10, _⟩ := w10.rd
  obtain ⟨_, q10, u10, f10, _⟩ := x10.rd
  obtain ⟨_, m10, h10, c10, _⟩ := ww10.rd
  obtain ⟨_, n10, k10, d10, _⟩ := xx10.rd
  obtain ⟨_, p11, s11, e11, _⟩ := w11.rd
  obtain ⟨_, q11, u11, f11, _⟩ := x11.rd
  obtain ⟨_, m11, h11, c11, _⟩ := ww11.rd
  obtain ⟨_, n11, k11, d11, _⟩ := xx11.rd
  obtain ⟨_, p12, s12, e12, _⟩ := w12.rd
  obtain ⟨_, q12, u12, f12, _⟩ := x12.rd
  obtain ⟨_, m12, h12, c12, _⟩ := ww12.rd
  obtain ⟨_, n12, k12, d12, _⟩ := xx12.rd
  exact QpA w0 x0 y0 z0 p10 q10 m10 n10 s10 u10 h10 k10 e10 f10 c10 d10 p11 q11 m11 n11 s11 u11 h11 k11 e11 f11 c11 d11 p12 q12 m12 n12 s12 u12 h12 k12 e12 f12 c12 d12

set_option maxRecDepth 100000 in
theorem lifted (os : Os) (started : os.Started) (H : Type) (enc : TypeId × Value → H) :
    ReturnsInHanded {} Tryz.checked os 3 .any (Rows.areaCutsSpec.pre6 enc Tryz.prog Tryz.f3 Rows.areaCutsRow.domain false) (Rows.areaCutsSpec.post enc Tryz.prog Tryz.f3 false true false false) := by
  refine returnsInHanded_of_change (C := Tryz.checked) own started (by kernel_rfl) Tryz.func3
    (ChangeSpec.witness6 (enc := enc) (C := Tryz.checked) false ⟨#[], #[.slice none 0 0, .agg #[.bool false, .slice none 0 0, .slice none 0 0, .bool false, .slice none 0 0, .slice none 0 0, .bool false, .slice none 0 0, .slice none 0 0, .bool false, .slice none 0 0, .slice none 0 0, .bool false, .slice none 0 0, .slice none 0 0, .bool false, .slice none 0 0, .slice none 0 0]], []⟩ 8 (by kernel_rfl) (by kernel_rfl) (by kernel_rfl) (by kernel_rfl)) ?_
  intro W base args ds gs before hval0 hW hcnd _
  have hval : ∀ (j : Nat) t v, Tryz.f3.params[j]? = some t → args[j]? = some v → Value.okWide Tryz.prog W .any base t v := hval0
  have hW' := hW
  obtain ⟨p, q, hA0, hV, rfl, hfz, hnd⟩ := hW
  have hA : DataW.TrodAll enc Tryz.prog W 0 (fun _ => true) true Tryz.f3.params.toList args.toList ds p := hA0
  rw [Tryz.params3] at hA hval
  obtain ⟨v0, vs0, d0, ds0, p0, q0, hargs, rfl, rfl, h0, r0⟩ := trodAll_cons hA
  obtain ⟨v1, vs1, d1, ds1, p1, q1, rfl, rfl, rfl, h1, r1⟩ := trodAll_cons r0
  obtain ⟨rfl, rfl, rfl⟩ := trodAll_nil r1
  obtain rfl : args = #[v0, v1] := by cases args; simp_all
  obtain ⟨rfl, rfl⟩ := trodVars_none hV
  have k0 := h0
  have lt0 : ∀ x ∈ p0, x.block < W.heap.size := by obtain ⟨m, hm⟩ := k0; exact DataW.trod_lt m _ _ _ hm
  obtain ⟨a0, len0, cap0, L0, rfl, w0, x0, y0, _, z0⟩ := QnV (hval 0 22 v0 rfl rfl) h0
  have k1 := h1
  have lt1 : ∀ x ∈ p1, x.block < W.heap.size := by obtain ⟨m, hm⟩ := k1; exact DataW.trod_lt m _ _ _ hm
  obtain ⟨b10, a10, len10, cap10, z10, g10, lem10, cup10, y10, sb10, E10, lin10, cin10, zz10, F10, lom10, cum10, yy10, b11, a11, len11, cap11, z11, g11, lem11, cup11, y11, sb11, E11, lin11, cin11, zz11, F11, lom11, cum11, yy11, b12, a12, len12, cap12, z12, g12, lem12, cup12, y12, sb12, E12, lin12, cin12, zz12, F12, lom12, cum12, yy12, rfl, w10, x10, ww10, xx10, w11, x11, ww11, xx11, w12, x12, ww12, xx12⟩ := Qm5 (hval 1 30 v1 rfl rfl) h1
  clear hA0 hval0
  refine (walk a0 len0 cap0 L0 b10 a10 len10 cap10 z10 g10 lem10 cup10 y10 sb10 E10 lin10 cin10 zz10 F10 lom10 cum10 yy10 b11 a11 len11 cap11 z11 g11 lem11 cup11 y11 sb11 E11 lin11 cin11 zz11 F11 lom11 cum11 yy11 b12 a12 len12 cap12 z12 g12 lem12 cup12 y12 sb12 E12 lin12 cin12 zz12 F12 lom12 cum12 yy12 W w0 x0 y0 z0 w10 x10 ww10 xx10 w11 x11 ww11 xx11 w12 x12 ww12 xx12).mono fun e W' ⟨he, bel⟩ => ?_
  subst he
  exact ⟨_, rfl, _, _, _, [], _, [], hW', trodAll_mk1 (shut_bool Tryz.underlying4 _), (trodAll_cons_mk (Below.trod laidOut (by kernel_rfl) (of_decide_eq_true (by kernel_rfl)) k0 bel lt0) (trodAll_cons_mk (Below.trod laidOut (by kernel_rfl) (of_decide_eq_true (by kernel_rfl)) k1 bel lt1) trodAll_mk0)), rfl, bel.frame _, fun h => by cases h⟩

theorem over : Rows.areaCutsRow.holds Tryz.pinned (OpenSpec.ofChange Rows.areaCutsSpec) :=
  OpenClaim.holds_of_wide 3 Tryz.f3 rfl rfl rfl rfl rfl rfl rfl ⟨rfl, rfl, rfl, rfl, rfl⟩ rfl rfl rfl rfl rfl (by kernel_rfl) Tryz.func3 (by kernel_rfl)
    (of_decide_eq_true (by kernel_rfl)) (by unfold Func.isWrapper; first | (rw [if_pos (by decide +kernel)]; kernel_rfl) | (rw [if_neg (by decide +kernel)]; exact ⟨rfl, rfl⟩))
    (fun os started H enc _ => lifted os started H enc)

/-- The statement. -/
theorem proved : Rows.AreaCutsSaid := over
end Go.Proofs.YthbhngeiiabagaaGreat.areaCuts
namespace Go.Proofs.YthbhngeiiabagaaGreat
/-- The statement. -/
theorem areaCuts_holds : Rows.AreaCutsSaid := areaCuts.proved
end Go.Proofs.YthbhngeiiabagaaGreat
