/- The law MatDoes holds: for every input it returns true and its arguments read as they did; no condition. -/
import Derived.Test.YtgneghgfpkkkdaaGreatRows
import Derived.WalkKit
import Derived.ProofKit
import Derived.OpenShut
import Derived.ShutString
import Derived.Below
import Derived.Test.YtgneghgfpkkkdaaGreatKMatDoes0
import Derived.Test.YtgneghgfpkkkdaaGreatKMatDoes19
import Derived.Test.YtgneghgfpkkkdaaGreatKMatDoes20
namespace Go.Proofs.YtgneghgfpkkkdaaGreat.matDoes
open Go.Proofs.YtgneghgfpkkkdaaGreat
open Go.ChangeShapes Go.WideShapes Go.ChangeAt Go.RowKit
open Go.ChangeMaps (open_string shut_string)
set_option linter.unusedVariables false

theorem own : ownKnob Tryz.prog.godebug = none := by kernel_rfl
theorem laidOut : laidOutB Tryz.prog = true := by kernel_rfl

theorem walk (m0 : MV) (m1 : MV) (b2 : Bool) (a2 : Option Addr) (len2 cap2 : Nat) (z2 : List Int) (g2 : Option Addr) (lem2 cup2 : Nat) (y2 : List Int) (sb2 : Bool) (E2 : Option Addr) (lin2 cin2 : Nat) (zz2 : List Int) (F2 : Option Addr) (lom2 cum2 : Nat) (yy2 : List Int) (w : World) (w0 : MRows w m0) (w1 : MRows w m1) (w2 : IsRow64 w a2 len2 cap2 z2) (x2 : IsRow64 w g2 lem2 cup2 y2) (ww2 : IsRow64 w E2 lin2 cin2 zz2) (xx2 : IsRow64 w F2 lom2 cum2 yy2) :
    Calls Tryz.prog 6 #[.agg #[.bool m0.a.s, .slice m0.a.A m0.a.n m0.a.c, .slice m0.a.B m0.a.m m0.a.d, .bool m0.b.s, .slice m0.b.A m0.b.n m0.b.c, .slice m0.b.B m0.b.m m0.b.d, .bool m0.c.s, .slice m0.c.A m0.c.n m0.c.c, .slice m0.c.B m0.c.m m0.c.d, .bool m0.d.s, .slice m0.d.A m0.d.n m0.d.c, .slice m0.d.B m0.d.m m0.d.d, .bool m0.e.s, .slice m0.e.A m0.e.n m0.e.c, .slice m0.e.B m0.e.m m0.e.d, .bool m0.f.s, .slice m0.f.A m0.f.n m0.f.c, .slice m0.f.B m0.f.m m0.f.d], .agg #[.bool m1.a.s, .slice m1.a.A m1.a.n m1.a.c, .slice m1.a.B m1.a.m m1.a.d, .bool m1.b.s, .slice m1.b.A m1.b.n m1.b.c, .slice m1.b.B m1.b.m m1.b.d, .bool m1.c.s, .slice m1.c.A m1.c.n m1.c.c, .slice m1.c.B m1.c.m m1.c.d, .bool m1.d.s, .slice m1.d.A m1.d.n m1.d.c, .slice m1.d.B m1.d.m m1.d.d, .bool m1.e.s, .slice m1.e.A m1.e.n m1.e.c, .slice m1.e.B m1.e.m m1.e.d, .bool m1.f.s, .slice m1.f.A m1.f.n m1.f.c, .slice m1.f.B m1.f.m m1.f.d], .agg #[.bool b2, .slice a2 len2 cap2, .slice g2 lem2 cup2, .bool sb2, .slice E2 lin2 cin2, .slice F2 lom2 cum2]] w fun e w' => e = .returned (.bool true) ∧ Below w.heap.size w w' := by
  obtain ⟨_, p2, s2, e2, _⟩ := w2.rd
  obtain ⟨_, q2, u2, f2, _⟩ := x2.rd
  obtain ⟨_, m2, h2, c2, _⟩ := ww2.rd
  obtain ⟨_, n2, k2, d2, _⟩ := xx2.rd
  exact law_does9 w0 w1 p2 q2 m2 n2 s2 u2 h2 k2 e2 f2 c2 d2

set_option maxRecDepth 100000 in
theorem lifted (os : Os) (started : os.Started) (H : Type) (enc : TypeId × Value → H) :
    ReturnsInHanded {} Tryz.checked os 6 .any (Rows.matDoesSpec.pre6 enc Tryz.prog Tryz.f6 Rows.matDoesRow.domain false) (Rows.matDoesSpec.post enc Tryz.prog Tryz.f6 false true false false) := by
  refine returnsInHanded_of_change (C := Tryz.checked) own started (by kernel_rfl) Tryz.func6
    (ChangeSpec.witness6 (enc := enc) (C := Tryz.checked) false ⟨#[], #[.agg #[.bool false, .slice none 0 0, .slice none 0 0, .bool false, .slice none 0 0, .slice none 0 0, .bool false, .slice none 0 0, .slice none 0 0, .bool false, .slice none 0 0, .slice none 0 0, .bool false, .slice none 0 0, .slice none 0 0, .bool false, .slice none 0 0, .slice none 0 0], .agg #[.bool false, .slice none 0 0, .slice none 0 0, .bool false, .slice none 0 0, .slice none 0 0, .bool false, .slice none 0 0, .slice none 0 0, .bool false, .slice none 0 0, .slice none 0 0, .bool false, .slice none 0 0, .slice none 0 0, .bool false, .slice none 0 0, .slice none 0 0], .agg #[.bool false, .slice none 0 0, .slice none 0 0, .bool false, .slice none 0 0, .slice none 0 0]], []⟩ 8 (by kernel_rfl) (by kernel_rfl) (by kernel_rfl) (by kernel_rfl)) ?_
  intro W base args ds gs before hval0 hW hcnd _
  have hval : ∀ (j : Nat) t v, Tryz.f6.params[j]? = some t → args[j]? = some v → Value.okWide Tryz.prog W .any base t v := hval0
  have hW' := hW
  obtain ⟨p, q, hA0, hV, rfl, hfz, hnd⟩ := hW
  have hA : DataW.TrodAll enc Tryz.prog W 0 (fun _ => true) true Tryz.f6.params.toList args.toList ds p := hA0
  rw [Tryz.params6] at hA hval
  obtain ⟨v0, vs0, d0, ds0, p0, q0, hargs, rfl, rfl, h0, r0⟩ := trodAll_cons hA
  obtain ⟨v1, vs1, d1, ds1, p1, q1, rfl, rfl, rfl, h1, r1⟩ := trodAll_cons r0
  obtain ⟨v2, vs2, d2, ds2, p2, q2, rfl, rfl, rfl, h2, r2⟩ := trodAll_cons r1
  obtain ⟨rfl, rfl, rfl⟩ := trodAll_nil r2
  obtain rfl : args = #[v0, v1, v2] := by cases args; simp_all
  obtain ⟨rfl, rfl⟩ := trodVars_none hV
  have k0 := h0
  have lt0 : ∀ x ∈ p0, x.block < W.heap.size := by obtain ⟨m, hm⟩ := k0; exact DataW.trod_lt m _ _ _ hm
  obtain ⟨m_0, rfl, w0⟩ := open_zmat (hval 0 71 v0 rfl rfl) h0
  have k1 := h1
  have lt1 : ∀ x ∈ p1, x.block < W.heap.size := by obtain ⟨m, hm⟩ := k1; exact DataW.trod_lt m _ _ _ hm
  obtain ⟨m_1, rfl, w1⟩ := open_zmat (hval 1 71 v1 rfl rfl) h1
  have k2 := h2
  have lt2 : ∀ x ∈ p2, x.block < W.heap.size := by obtain ⟨m, hm⟩ := k2; exact DataW.trod_lt m _ _ _ hm
  obtain ⟨b2, a2, len2, cap2, z2, g2, lem2, cup2, y2, sb2, E2, lin2, cin2, zz2, F2, lom2, cum2, yy2, rfl, w2, x2, ww2, xx2⟩ := open_zpt (hval 2 29 v2 rfl rfl) h2
  clear hA0 hval0
  refine (walk m_0 m_1 b2 a2 len2 cap2 z2 g2 lem2 cup2 y2 sb2 E2 lin2 cin2 zz2 F2 lom2 cum2 yy2 W w0 w1 w2 x2 ww2 xx2).mono fun e W' ⟨he, bel⟩ => ?_
  subst he
  exact ⟨_, rfl, _, _, _, [], _, [], hW', trodAll_mk1 (shut_bool Tryz.underlying4 _), (trodAll_cons_mk (Below.trod laidOut (by kernel_rfl) (of_decide_eq_true (by kernel_rfl)) k0 bel lt0) (trodAll_cons_mk (Below.trod laidOut (by kernel_rfl) (of_decide_eq_true (by kernel_rfl)) k1 bel lt1) (trodAll_cons_mk (Below.trod laidOut (by kernel_rfl) (of_decide_eq_true (by kernel_rfl)) k2 bel lt2) trodAll_mk0))), rfl, bel.frame _, fun h => by cases h⟩

theorem over : Rows.matDoesRow.holds Tryz.pinned (OpenSpec.ofChange Rows.matDoesSpec) :=
  OpenClaim.holds_of_wide 6 Tryz.f6 rfl rfl rfl rfl rfl rfl rfl ⟨rfl, rfl, rfl, rfl, rfl⟩ rfl rfl rfl rfl rfl (by kernel_rfl) Tryz.func6 (by kernel_rfl)
    (of_decide_eq_true (by kernel_rfl)) (by unfold Func.isWrapper; first | (rw [if_pos (by decide +kernel)]; kernel_rfl) | (rw [if_neg (by decide +kernel)]; exact ⟨rfl, rfl⟩))
    (fun os started H enc _ => lifted os started H enc)

/-- The statement. -/
theorem proved : Rows.MatDoesSaid := over
end Go.Proofs.YtgneghgfpkkkdaaGreat.matDoes
namespace Go.Proofs.YtgneghgfpkkkdaaGreat
/-- The statement. -/
theorem matDoes_holds : Rows.MatDoesSaid := matDoes.proved
end Go.Proofs.YtgneghgfpkkkdaaGreat
