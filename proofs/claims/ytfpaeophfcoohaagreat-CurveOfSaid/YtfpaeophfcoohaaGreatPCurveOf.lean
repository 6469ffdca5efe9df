/- The law CurveOf holds: for every input it returns true and its arguments read as they did; no condition. -/
import Derived.Test.YtfpaeophfcoohaaGreatRows
import Derived.WalkKit
import Derived.ProofKit
import Derived.OpenShut
import Derived.ShutString
import Derived.Below
import Derived.Test.YtfpaeophfcoohaaGreatKCurveOf0
import Derived.Test.YtfpaeophfcoohaaGreatKCurveOf18
namespace Go.Proofs.YtfpaeophfcoohaaGreat.curveOf
open Go.Proofs.YtfpaeophfcoohaaGreat
open Go.ChangeShapes Go.WideShapes Go.ChangeAt Go.RowKit
open Go.ChangeMaps (open_string shut_string)
set_option linter.unusedVariables false

theorem own : ownKnob Tryz.prog.godebug = none := by kernel_rfl
theorem laidOut : laidOutB Tryz.prog = true := by kernel_rfl

theorem walk (b0 : Bool) (a0 : Option Addr) (len0 cap0 : Nat) (z0 : List Int) (g0 : Option Addr) (lem0 cup0 : Nat) (y0 : List Int) (sb0 : Bool) (E0 : Option Addr) (lin0 cin0 : Nat) (zz0 : List Int) (F0 : Option Addr) (lom0 cum0 : Nat) (yy0 : List Int) (u1 : SV8) (m2 : MV) (w : World) (w0 : IsRow64 w a0 len0 cap0 z0) (x0 : IsRow64 w g0 lem0 cup0 y0) (ww0 : IsRow64 w E0 lin0 cin0 zz0) (xx0 : IsRow64 w F0 lom0 cum0 yy0) (w1 : u1.In) (w2 : MRows w m2) :
    Calls Tryz.prog 3 #[.agg #[.bool b0, .slice a0 len0 cap0, .slice g0 lem0 cup0, .bool sb0, .slice E0 lin0 cin0, .slice F0 lom0 cum0], .agg #[.int .i64 u1.k, .int .i64 u1.v0, .int .i64 u1.v1, .int .i64 u1.v2, .int .i64 u1.v3, .int .i64 u1.v4, .int .i64 u1.v5, .int .i64 u1.w], .agg #[.bool m2.a.s, .slice m2.a.A m2.a.n m2.a.c, .slice m2.a.B m2.a.m m2.a.d, .bool m2.b.s, .slice m2.b.A m2.b.n m2.b.c, .slice m2.b.B m2.b.m m2.b.d, .bool m2.c.s, .slice m2.c.A m2.c.n m2.c.c, .slice m2.c.B m2.c.m m2.c.d, .bool m2.d.s, .slice m2.d.A m2.d.n m2.d.c, .slice m2.d.B m2.d.m m2.d.d, .bool m2.e.s, .slice m2.e.A m2.e.n m2.e.c, .slice m2.e.B m2.e.m m2.e.d, .bool m2.f.s, .slice m2.f.A m2.f.n m2.f.c, .slice m2.f.B m2.f.m m2.f.d]] w fun e w' => e = .returned (.bool true) ∧ Below w.heap.size w w' := by
  obtain ⟨_, p0, s0, e0, _⟩ := w0.rd
  obtain ⟨_, q0, u0, f0, _⟩ := x0.rd
  obtain ⟨_, m0, h0, c0, _⟩ := ww0.rd
  obtain ⟨_, n0, k0, d0, _⟩ := xx0.rd
  exact law_of13 u1 p0 s0 e0 q0 u0 f0 m0 h0 c0 n0 k0 d0 w1 w2

set_option maxRecDepth 100000 in
theorem lifted (os : Os) (started : os.Started) (H : Type) (enc : TypeId × Value → H) :
    ReturnsInHanded {} Tryz.checked os 3 .any (Rows.curveOfSpec.pre6 enc Tryz.prog Tryz.f3 Rows.curveOfRow.domain false) (Rows.curveOfSpec.post enc Tryz.prog Tryz.f3 false true false false) := by
  refine returnsInHanded_of_change (C := Tryz.checked) own started (by kernel_rfl) Tryz.func3
    (ChangeSpec.witness6 (enc := enc) (C := Tryz.checked) false ⟨#[], #[.agg #[.bool false, .slice none 0 0, .slice none 0 0, .bool false, .slice none 0 0, .slice none 0 0], .agg #[.int .i64 0, .int .i64 0, .int .i64 0, .int .i64 0, .int .i64 0, .int .i64 0, .int .i64 0, .int .i64 0], .agg #[.bool false, .slice none 0 0, .slice none 0 0, .bool false, .slice none 0 0, .slice none 0 0, .bool false, .slice none 0 0, .slice none 0 0, .bool false, .slice none 0 0, .slice none 0 0, .bool false, .slice none 0 0, .slice none 0 0, .bool false, .slice none 0 0, .slice none 0 0]], []⟩ 8 (by kernel_rfl) (by kernel_rfl) (by kernel_rfl) (by kernel_rfl)) ?_
  intro W base args ds gs before hval0 hW hcnd _
  have hval : ∀ (j : Nat) t v, Tryz.f3.params[j]? = some t → args[j]? = some v → Value.okWide Tryz.prog W .any base t v := hval0
  have hW' := hW
  obtain ⟨p, q, hA0, hV, rfl, hfz, hnd⟩ := hW
  have hA : DataW.TrodAll enc Tryz.prog W 0 (fun _ => true) true Tryz.f3.params.toList args.toList ds p := hA0
  rw [Tryz.params3] at hA hval
  obtain ⟨v0, vs0, d0, ds0, p0, q0, hargs, rfl, rfl, h0, r0⟩ := trodAll_cons hA
  obtain ⟨v1, vs1, d1, ds1, p1, q1, rfl, rfl, rfl, h1, r1⟩ := trodAll_cons r0
  obtain ⟨v2, vs2, d2, ds2, p2, q2, rfl, rfl, rfl, h2, r2⟩ := trodAll_cons r1
  obtain ⟨rfl, rfl, rfl⟩ := trodAll_nil r2
  obtain rfl : args = #[v0, v1, v2] := by cases args; simp_all
  obtain ⟨rfl, rfl⟩ := trodVars_none hV
  have k0 := h0
  have lt0 : ∀ x ∈ p0, x.block < W.heap.size := by obtain ⟨m, hm⟩ := k0; exact DataW.trod_lt m _ _ _ hm
  obtain ⟨b0, a0, len0, cap0, z0, g0, lem0, cup0, y0, sb0, E0, lin0, cin0, zz0, F0, lom0, cum0, yy0, rfl, w0, x0, ww0, xx0⟩ := open_zpt (hval 0 28 v0 rfl rfl) h0
  have k1 := h1
  have lt1 : ∀ x ∈ p1, x.block < W.heap.size := by obtain ⟨m, hm⟩ := k1; exact DataW.trod_lt m _ _ _ hm
  obtain ⟨u_1, rfl, w1⟩ := open_zseg (hval 1 31 v1 rfl rfl) h1
  have k2 := h2
  have lt2 : ∀ x ∈ p2, x.block < W.heap.size := by obtain ⟨m, hm⟩ := k2; exact DataW.trod_lt m _ _ _ hm
  obtain ⟨m_2, rfl, w2⟩ := open_zmat (hval 2 33 v2 rfl rfl) h2
  clear hA0 hval0
  refine (walk b0 a0 len0 cap0 z0 g0 lem0 cup0 y0 sb0 E0 lin0 cin0 zz0 F0 lom0 cum0 yy0 u_1 m_2 W w0 x0 ww0 xx0 w1 w2).mono fun e W' ⟨he, bel⟩ => ?_
  subst he
  exact ⟨_, rfl, _, _, _, [], _, [], hW', trodAll_mk1 (shut_bool Tryz.underlying4 _), (trodAll_cons_mk (Below.trod laidOut (by kernel_rfl) (of_decide_eq_true (by kernel_rfl)) k0 bel lt0) (trodAll_cons_mk (Below.trod laidOut (by kernel_rfl) (of_decide_eq_true (by kernel_rfl)) k1 bel lt1) (trodAll_cons_mk (Below.trod laidOut (by kernel_rfl) (of_decide_eq_true (by kernel_rfl)) k2 bel lt2) trodAll_mk0))), rfl, bel.frame _, fun h => by cases h⟩

theorem over : Rows.curveOfRow.holds Tryz.pinned (OpenSpec.ofChange Rows.curveOfSpec) :=
  OpenClaim.holds_of_wide 3 Tryz.f3 rfl rfl rfl rfl rfl rfl rfl ⟨rfl, rfl, rfl, rfl, rfl⟩ rfl rfl rfl rfl rfl (by kernel_rfl) Tryz.func3 (by kernel_rfl)
    (of_decide_eq_true (by kernel_rfl)) (by unfold Func.isWrapper; first | (rw [if_pos (by decide +kernel)]; kernel_rfl) | (rw [if_neg (by decide +kernel)]; exact ⟨rfl, rfl⟩))
    (fun os started H enc _ => lifted os started H enc)

/-- The statement. -/
theorem proved : Rows.CurveOfSaid := over
end Go.Proofs.YtfpaeophfcoohaaGreat.curveOf
namespace Go.Proofs.YtfpaeophfcoohaaGreat
/-- The statement. -/
theorem curveOf_holds : Rows.CurveOfSaid := curveOf.proved
end Go.Proofs.YtfpaeophfcoohaaGreat
