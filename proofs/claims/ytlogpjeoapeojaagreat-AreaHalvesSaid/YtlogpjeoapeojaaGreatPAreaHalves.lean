/- The law AreaHalves holds: for every input it returns true and its arguments read as they did; no condition. -/
import Derived.Test.YtlogpjeoapeojaaGreatRows
import Derived.WalkKit
import Derived.ProofKit
import Derived.OpenShut
import Derived.ShutString
import Derived.Below
import Derived.Test.YtlogpjeoapeojaaGreatKAreaHalves0
import Derived.Test.YtlogpjeoapeojaaGreatKAreaHalves14
import Derived.Test.YtlogpjeoapeojaaGreatKAreaHalves19
namespace Go.Proofs.YtlogpjeoapeojaaGreat.areaHalves
open Go.Proofs.YtlogpjeoapeojaaGreat
open Go.ChangeShapes Go.WideShapes Go.ChangeAt Go.RowKit
open Go.ChangeMaps (open_string shut_string)
set_option linter.unusedVariables false

theorem own : ownKnob Tryz.prog.godebug = none := by kernel_rfl
theorem laidOut : laidOutB Tryz.prog = true := by kernel_rfl

theorem walk (a0 : Option Addr) (len0 cap0 : Nat) (L0 : List PV) (b1 : Bool) (a1 : Option Addr) (len1 cap1 : Nat) (z1 : List Int) (g1 : Option Addr) (lem1 cup1 : Nat) (y1 : List Int) (sb1 : Bool) (E1 : Option Addr) (lin1 cin1 : Nat) (zz1 : List Int) (F1 : Option Addr) (lom1 cum1 : Nat) (yy1 : List Int) (b2 : Bool) (a2 : Option Addr) (len2 cap2 : Nat) (z2 : List Int) (g2 : Option Addr) (lem2 cup2 : Nat) (y2 : List Int) (sb2 : Bool) (E2 : Option Addr) (lin2 cin2 : Nat) (zz2 : List Int) (F2 : Option Addr) (lom2 cum2 : Nat) (yy2 : List Int) (w : World) (w0 : SV w a0 (pvs L0)) (x0 : L0.length = len0) (y0 : len0 ≤ cap0) (z0 : ∀ q ∈ L0, q.Raw w) (w1 : IsRow64 w a1 len1 cap1 z1) (x1 : IsRow64 w g1 lem1 cup1 y1) (ww1 : IsRow64 w E1 lin1 cin1 zz1) (xx1 : IsRow64 w F1 lom1 cum1 yy1) (w2 : IsRow64 w a2 len2 cap2 z2) (x2 : IsRow64 w g2 lem2 cup2 y2) (ww2 : IsRow64 w E2 lin2 cin2 zz2) (xx2 : IsRow64 w F2 lom2 cum2 yy2) :
    Calls Tryz.prog 4 #[.slice a0 len0 cap0, .agg #[.bool b1, .slice a1 len1 cap1, .slice g1 lem1 cup1, .bool sb1, .slice E1 lin1 cin1, .slice F1 lom1 cum1], .agg #[.bool b2, .slice a2 len2 cap2, .slice g2 lem2 cup2, .bool sb2, .slice E2 lin2 cin2, .slice F2 lom2 cum2]] w fun e w' => e = .returned (.bool true) ∧ Below w.heap.size w w' := by
  obtain ⟨_, p1, s1, e1, _⟩ := w1.rd
  obtain ⟨_, q1, u1, f1, _⟩ := x1.rd
  obtain ⟨_, m1, h1, c1, _⟩ := ww1.rd
  obtain ⟨_, n1, k1, d1, _⟩ := xx1.rd
  obtain ⟨_, p2, s2, e2, _⟩ := w2.rd
  obtain ⟨_, q2, u2, f2, _⟩ := x2.rd
  obtain ⟨_, m2, h2, c2, _⟩ := ww2.rd
  obtain ⟨_, n2, k2, d2, _⟩ := xx2.rd
  exact law_halves w0 x0 y0 z0 p1 q1 m1 n1 s1 u1 h1 k1 e1 f1 c1 d1 p2 q2 m2 n2 s2 u2 h2 k2 e2 f2 c2 d2

set_option maxRecDepth 100000 in
theorem lifted (os : Os) (started : os.Started) (H : Type) (enc : TypeId × Value → H) :
    ReturnsInHanded {} Tryz.checked os 4 .any (Rows.areaHalvesSpec.pre6 enc Tryz.prog Tryz.f4 Rows.areaHalvesRow.domain false) (Rows.areaHalvesSpec.post enc Tryz.prog Tryz.f4 false true false false) := by
  refine returnsInHanded_of_change (C := Tryz.checked) own started (by kernel_rfl) Tryz.func4
    (ChangeSpec.witness6 (enc := enc) (C := Tryz.checked) false ⟨#[], #[.slice none 0 0, .agg #[.bool false, .slice none 0 0, .slice none 0 0, .bool false, .slice none 0 0, .slice none 0 0], .agg #[.bool false, .slice none 0 0, .slice none 0 0, .bool false, .slice none 0 0, .slice none 0 0]], []⟩ 8 (by kernel_rfl) (by kernel_rfl) (by kernel_rfl) (by kernel_rfl)) ?_
  intro W base args ds gs before hval0 hW hcnd _
  have hval : ∀ (j : Nat) t v, Tryz.f4.params[j]? = some t → args[j]? = some v → Value.okWide Tryz.prog W .any base t v := hval0
  have hW' := hW
  obtain ⟨p, q, hA0, hV, rfl, hfz, hnd⟩ := hW
  have hA : DataW.TrodAll enc Tryz.prog W 0 (fun _ => true) true Tryz.f4.params.toList args.toList ds p := hA0
  rw [Tryz.params4] at hA hval
  obtain ⟨v0, vs0, d0, ds0, p0, q0, hargs, rfl, rfl, h0, r0⟩ := trodAll_cons hA
  obtain ⟨v1, vs1, d1, ds1, p1, q1, rfl, rfl, rfl, h1, r1⟩ := trodAll_cons r0
  obtain ⟨v2, vs2, d2, ds2, p2, q2, rfl, rfl, rfl, h2, r2⟩ := trodAll_cons r1
  obtain ⟨rfl, rfl, rfl⟩ := trodAll_nil r2
  obtain rfl : args = #[v0, v1, v2] := by cases args; simp_all
  obtain ⟨rfl, rfl⟩ := trodVars_none hV
  have k0 := h0
  have lt0 : ∀ x ∈ p0, x.block < W.heap.size := by obtain ⟨m, hm⟩ := k0; exact DataW.trod_lt m _ _ _ hm
  obtain ⟨a0, len0, cap0, L0, rfl, w0, x0, y0, _, z0⟩ := open_zpts (hval 0 22 v0 rfl rfl) h0
  have k1 := h1
  have lt1 : ∀ x ∈ p1, x.block < W.heap.size := by obtain ⟨m, hm⟩ := k1; exact DataW.trod_lt m _ _ _ hm
  obtain ⟨b1, a1, len1, cap1, z1, g1, lem1, cup1, y1, sb1, E1, lin1, cin1, zz1, F1, lom1, cum1, yy1, rfl, w1, x1, ww1, xx1⟩ := open_zpt (hval 1 29 v1 rfl rfl) h1
  have k2 := h2
  have lt2 : ∀ x ∈ p2, x.block < W.heap.size := by obtain ⟨m, hm⟩ := k2; exact DataW.trod_lt m _ _ _ hm
  obtain ⟨b2, a2, len2, cap2, z2, g2, lem2, cup2, y2, sb2, E2, lin2, cin2, zz2, F2, lom2, cum2, yy2, rfl, w2, x2, ww2, xx2⟩ := open_zpt (hval 2 29 v2 rfl rfl) h2
  clear hA0 hval0
  refine (walk a0 len0 cap0 L0 b1 a1 len1 cap1 z1 g1 lem1 cup1 y1 sb1 E1 lin1 cin1 zz1 F1 lom1 cum1 yy1 b2 a2 len2 cap2 z2 g2 lem2 cup2 y2 sb2 E2 lin2 cin2 zz2 F2 lom2 cum2 yy2 W w0 x0 y0 z0 w1 x1 ww1 xx1 w2 x2 ww2 xx2).mono fun e W' ⟨he, bel⟩ => ?_
  subst he
  exact ⟨_, rfl, _, _, _, [], _, [], hW', trodAll_mk1 (shut_bool Tryz.underlying4 _), (trodAll_cons_mk (Below.trod laidOut (by kernel_rfl) (of_decide_eq_true (by kernel_rfl)) k0 bel lt0) (trodAll_cons_mk (Below.trod laidOut (by kernel_rfl) (of_decide_eq_true (by kernel_rfl)) k1 bel lt1) (trodAll_cons_mk (Below.trod laidOut (by kernel_rfl) (of_decide_eq_true (by kernel_rfl)) k2 bel lt2) trodAll_mk0))), rfl, bel.frame _, fun h => by cases h⟩

theorem over : Rows.areaHalvesRow.holds Tryz.pinned (OpenSpec.ofChange Rows.areaHalvesSpec) :=
  OpenClaim.holds_of_wide 4 Tryz.f4 rfl rfl rfl rfl rfl rfl rfl ⟨rfl, rfl, rfl, rfl, rfl⟩ rfl rfl rfl rfl rfl (by kernel_rfl) Tryz.func4 (by kernel_rfl)
    (of_decide_eq_true (by kernel_rfl)) (by unfold Func.isWrapper; first | (rw [if_pos (by decide +kernel)]; kernel_rfl) | (rw [if_neg (by decide +kernel)]; exact ⟨rfl, rfl⟩))
    (fun os started H enc _ => lifted os started H enc)

/-- The statement. -/
theorem proved : Rows.AreaHalvesSaid := over
end Go.Proofs.YtlogpjeoapeojaaGreat.areaHalves
namespace Go.Proofs.YtlogpjeoapeojaaGreat
/-- The statement. -/
theorem areaHalves_holds : Rows.AreaHalvesSaid := areaHalves.proved
end Go.Proofs.YtlogpjeoapeojaaGreat
