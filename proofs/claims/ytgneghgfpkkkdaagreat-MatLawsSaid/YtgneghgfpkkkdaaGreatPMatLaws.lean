/- The law MatLaws holds: for every input it returns true and its arguments read as they did; no condition. -/
import Derived.Test.YtgneghgfpkkkdaaGreatRows
import Derived.WalkKit
import Derived.ProofKit
import Derived.OpenShut
import Derived.ShutString
import Derived.Below
import Derived.Test.YtgneghgfpkkkdaaGreatKMatLaws0
import Derived.Test.YtgneghgfpkkkdaaGreatKMatLaws15
import Derived.Test.YtgneghgfpkkkdaaGreatKMatLaws16
namespace Go.Proofs.YtgneghgfpkkkdaaGreat.matLaws
open Go.Proofs.YtgneghgfpkkkdaaGreat
open Go.ChangeShapes Go.WideShapes Go.ChangeAt Go.RowKit
open Go.ChangeMaps (open_string shut_string)
set_option linter.unusedVariables false

theorem own : ownKnob Tryz.prog.godebug = none := by kernel_rfl
theorem laidOut : laidOutB Tryz.prog = true := by kernel_rfl

theorem walk (m0 : MV) (m1 : MV) (b20 : Bool) (a20 : Option Addr) (len20 cap20 : Nat) (z20 : List Int) (g20 : Option Addr) (lem20 cup20 : Nat) (y20 : List Int) (sb20 : Bool) (E20 : Option Addr) (lin20 cin20 : Nat) (zz20 : List Int) (F20 : Option Addr) (lom20 cum20 : Nat) (yy20 : List Int) (b21 : Bool) (a21 : Option Addr) (len21 cap21 : Nat) (z21 : List Int) (g21 : Option Addr) (lem21 cup21 : Nat) (y21 : List Int) (sb21 : Bool) (E21 : Option Addr) (lin21 cin21 : Nat) (zz21 : List Int) (F21 : Option Addr) (lom21 cum21 : Nat) (yy21 : List Int) (b22 : Bool) (a22 : Option Addr) (len22 cap22 : Nat) (z22 : List Int) (g22 : Option Addr) (lem22 cup22 : Nat) (y22 : List Int) (sb22 : Bool) (E22 : Option Addr) (lin22 cin22 : Nat) (zz22 : List Int) (F22 : Option Addr) (lom22 cum22 : Nat) (yy22 : List Int) (w : World) (w0 : MRows w m0) (w1 : MRows w m1) (w20 : IsRow64 w a20 len20 cap20 z20) (x20 : IsRow64 w g20 lem20 cup20 y20) (ww20 : IsRow64 w E20 lin20 cin20 zz20) (xx20 : IsRow64 w F20 lom20 cum20 yy20) (w21 : IsRow64 w a21 len21 cap21 z21) (x21 : IsRow64 w g21 lem21 cup21 y21) (ww21 : IsRow64 w E21 lin21 cin21 zz21) (xx21 : IsRow64 w F21 lom21 cum21 yy21) (w22 : IsRow64 w a22 len22 cap22 z22) (x22 : IsRow64 w g22 lem22 cup22 y22) (ww22 : IsRow64 w E22 lin22 cin22 zz22) (xx22 : IsRow64 w F22 lom22 cum22 yy22) :
    Calls Tryz.prog 8 #[.agg #[.bool m0.a.s, .slice m0.a.A m0.a.n m0.a.c, .slice m0.a.B m0.a.m m0.a.d, .bool m0.b.s, .slice m0.b.A m0.b.n m0.b.c, .slice m0.b.B m0.b.m m0.b.d, .bool m0.c.s, .slice m0.c.A m0.c.n m0.c.c, .slice m0.c.B m0.c.m m0.c.d, .bool m0.d.s, .slice m0.d.A m0.d.n m0.d.c, .slice m0.d.B m0.d.m m0.d.d, .bool m0.e.s, .slice m0.e.A m0.e.n m0.e.c, .slice m0.e.B m0.e.m m0.e.d, .bool m0.f.s, .slice m0.f.A m0.f.n m0.f.c, .slice m0.f.B m0.f.m m0.f.d], .agg #[.bool m1.a.s, .slice m1.a.A m1.a.n m1.a.c, .slice m1.a.B m1.a.m m1.a.d, .bool m1.b.s, .slice m1.b.A m1.b.n m1.b.c, .slice m1.b.B m1.b.m m1.b.d, .bool m1.c.s, .slice m1.c.A m1.c.n m1.c.c, .slice m1.c.B m1.c.m m1.c.d, .bool m1.d.s, .slice m1.d.A m1.d.n m1.d.c, .slice m1.d.B m1.d.m m1.d.d, .bool m1.e.s, .slice m1.e.A m1.e.n m1.e.c, .slice m1.e.B m1.e.m m1.e.d, .bool m1.f.s, .slice m1.f.A m1.f.n m1.f.c, .slice m1.f.B m1.f.m m1.f.d], .agg #[.bool b20, .slice a20 len20 cap20, .slice g20 lem20 cup20, .bool sb20, .slice E20 lin20 cin20, .slice F20 lom20 cum20, .bool b21, .slice a21 len21 cap21, .slice g21 lem21 cup21, .bool sb21, .slice E21 lin21 cin21, .slice F21 lom21 cum21, .bool b22, .slice a22 len22 cap22, .slice g22 lem22 cup22, .bool sb22, .slice E22 lin22 cin22, .slice F22 lom22 cum22]] w fun e w' => e = .returned (.bool true) ∧ Below w.heap.size w w' := by
  obtain ⟨_, p0, s0, e0, _⟩ := w20.rd
  obtain ⟨_, q0, u0, f0, _⟩ := x20.rd
  obtain ⟨_, m0, h0, c0, _⟩ := ww20.rd
  obtain ⟨_, n0, k0, d0, _⟩ := xx20.rd
  obtain ⟨_, p1, s1, e1, _⟩ := w21.rd
  obtain ⟨_, q1, u1, f1, _⟩ := x21.rd
  obtain ⟨_, m1, h1, c1, _⟩ := ww21.rd
  obtain ⟨_, n1, k1, d1, _⟩ := xx21.rd
  obtain ⟨_, p2, s2, e2, _⟩ := w22.rd
  obtain ⟨_, q2, u2, f2, _⟩ := x22.rd
  obtain ⟨_, m2, h2, c2, _⟩ := ww22.rd
  obtain ⟨_, n2, k2, d2, _⟩ := xx22.rd
  exact law_laws9 w0 w1 p0 q0 m0 n0 s0 u0 h0 k0 e0 f0 c0 d0 p1 q1 m1 n1 s1 u1 h1 k1 e1 f1 c1 d1 p2 q2 m2 n2 s2 u2 h2 k2 e2 f2 c2 d2

set_option maxRecDepth 100000 in
theorem lifted (os : Os) (started : os.Started) (H : Type) (enc : TypeId × Value → H) :
    ReturnsInHanded {} Tryz.checked os 8 .any (Rows.matLawsSpec.pre6 enc Tryz.prog Tryz.f8 Rows.matLawsRow.domain false) (Rows.matLawsSpec.post enc Tryz.prog Tryz.f8 false true false false) := by
  refine returnsInHanded_of_change (C := Tryz.checked) own started (by kernel_rfl) Tryz.func8
    (ChangeSpec.witness6 (enc := enc) (C := Tryz.checked) false ⟨#[], #[.agg #[.bool false, .slice none 0 0, .slice none 0 0, .bool false, .slice none 0 0, .slice none 0 0, .bool false, .slice none 0 0, .slice none 0 0, .bool false, .slice none 0 0, .slice none 0 0, .bool false, .slice none 0 0, .slice none 0 0, .bool false, .slice none 0 0, .slice none 0 0], .agg #[.bool false, .slice none 0 0, .slice none 0 0, .bool false, .slice none 0 0, .slice none 0 0, .bool false, .slice none 0 0, .slice none 0 0, .bool false, .slice none 0 0, .slice none 0 0, .bool false, .slice none 0 0, .slice none 0 0, .bool false, .slice none 0 0, .slice none 0 0], .agg #[.bool false, .slice none 0 0, .slice none 0 0, .bool false, .slice none 0 0, .slice none 0 0, .bool false, .slice none 0 0, .slice none 0 0, .bool false, .slice none 0 0, .slice none 0 0, .bool false, .slice none 0 0, .slice none 0 0, .bool false, .slice none 0 0, .slice none 0 0]], []⟩ 8 (by kernel_rfl) (by kernel_rfl) (by kernel_rfl) (by kernel_rfl)) ?_
  intro W base args ds gs before hval0 hW hcnd _
  have hval : ∀ (j : Nat) t v, Tryz.f8.params[j]? = some t → args[j]? = some v → Value.okWide Tryz.prog W .any base t v := hval0
  have hW' := hW
  obtain ⟨p, q, hA0, hV, rfl, hfz, hnd⟩ := hW
  have hA : DataW.TrodAll enc Tryz.prog W 0 (fun _ => true) true Tryz.f8.params.toList args.toList ds p := hA0
  rw [Tryz.params8] at hA hval
  obtain ⟨v0, vs0, d0, ds0, p0, q0, hargs, rfl, rfl, h0, r0⟩ := trodAll_cons hA
  obtain ⟨v1, vs1, d1, ds1, p1, q1, rfl, rfl, rfl, h1, r1⟩ := trodAll_cons r0
  obtain ⟨v2, vs2, d2, ds2, p2, q2, rfl, rfl, rfl, h2, r2⟩ := trodAll_cons r1
  obtain ⟨rfl, rfl, rfl⟩ := trodAll_nil r2
  obtain rfl : args = #[v0, v1, v2] := by cases args; simp_all
  obtain ⟨rfl, rfl⟩ := trodVars_none hV
  have k0 := h0
  have lt0 : ∀ x ∈ p0, x.block < W.heap.size := by obtain ⟨m, hm⟩ := k0; exact DataW.trod_lt m _ _ _ hm
  obtain ⟨m_0, rfl, w0⟩ := open_zmat (hval 0 71 v0 rfl rfl) h0
  have k1 := h1
  have lt1 : ∀ x ∈ p1, x.block < W.heap.size := by obtain ⟨m, hm⟩ := k1; exact DataW.trod_lt m _ _ _ hm
  obtain ⟨m_1, rfl, w1⟩ := open_zmat (hval 1 71 v1 rfl rfl) h1
  have k2 := h2
  have lt2 : ∀ x ∈ p2, x.block < W.heap.size := by obtain ⟨m, hm⟩ := k2; exact DataW.trod_lt m _ _ _ hm
  obtain ⟨b20, a20, len20, cap20, z20, g20, lem20, cup20, y20, sb20, E20, lin20, cin20, zz20, F20, lom20, cum20, yy20, b21, a21, len21, cap21, z21, g21, lem21, cup21, y21, sb21, E21, lin21, cin21, zz21, F21, lom21, cum21, yy21, b22, a22, len22, cap22, z22, g22, lem22, cup22, y22, sb22, E22, lin22, cin22, zz22, F22, lom22, cum22, yy22, rfl, w20, x20, ww20, xx20, w21, x21, ww21, xx21, w22, x22, ww22, xx22⟩ := open_z3pt (hval 2 63 v2 rfl rfl) h2
  clear hA0 hval0
  refine (walk m_0 m_1 b20 a20 len20 cap20 z20 g20 lem20 cup20 y20 sb20 E20 lin20 cin20 zz20 F20 lom20 cum20 yy20 b21 a21 len21 cap21 z21 g21 lem21 cup21 y21 sb21 E21 lin21 cin21 zz21 F21 lom21 cum21 yy21 b22 a22 len22 cap22 z22 g22 lem22 cup22 y22 sb22 E22 lin22 cin22 zz22 F22 lom22 cum22 yy22 W w0 w1 w20 x20 ww20 xx20 w21 x21 ww21 xx21 w22 x22 ww22 xx22).mono fun e W' ⟨he, bel⟩ => ?_
  subst he
  exact ⟨_, rfl, _, _, _, [], _, [], hW', trodAll_mk1 (shut_bool Tryz.underlying4 _), (trodAll_cons_mk (Below.trod laidOut (by kernel_rfl) (of_decide_eq_true (by kernel_rfl)) k0 bel lt0) (trodAll_cons_mk (Below.trod laidOut (by kernel_rfl) (of_decide_eq_true (by kernel_rfl)) k1 bel lt1) (trodAll_cons_mk (Below.trod laidOut (by kernel_rfl) (of_decide_eq_true (by kernel_rfl)) k2 bel lt2) trodAll_mk0))), rfl, bel.frame _, fun h => by cases h⟩

theorem over : Rows.matLawsRow.holds Tryz.pinned (OpenSpec.ofChange Rows.matLawsSpec) :=
  OpenClaim.holds_of_wide 8 Tryz.f8 rfl rfl rfl rfl rfl rfl rfl ⟨rfl, rfl, rfl, rfl, rfl⟩ rfl rfl rfl rfl rfl (by kernel_rfl) Tryz.func8 (by kernel_rfl)
    (of_decide_eq_true (by kernel_rfl)) (by unfold Func.isWrapper; first | (rw [if_pos (by decide +kernel)]; kernel_rfl) | (rw [if_neg (by decide +kernel)]; exact ⟨rfl, rfl⟩))
    (fun os started H enc _ => lifted os started H enc)

/-- The statement. -/
theorem proved : Rows.MatLawsSaid := over
end Go.Proofs.YtgneghgfpkkkdaaGreat.matLaws
namespace Go.Proofs.YtgneghgfpkkkdaaGreat
/-- The statement. -/
theorem matLaws_holds : Rows.MatLawsSaid := matLaws.proved
end Go.Proofs.YtgneghgfpkkkdaaGreat
