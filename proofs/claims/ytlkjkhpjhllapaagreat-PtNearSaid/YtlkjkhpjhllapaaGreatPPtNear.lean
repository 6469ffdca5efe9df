/- The law PtNear holds: for every input it returns true and its arguments read as they did; no condition. -/
import Derived.Test.YtlkjkhpjhllapaaGreatRows
import Derived.WalkKit
import Derived.ProofKit
import Derived.OpenShut
import Derived.ShutString
import Derived.Below
import Derived.Test.YtlkjkhpjhllapaaGreatKPtNear0
import Derived.Test.YtlkjkhpjhllapaaGreatKPtNear16
namespace Go.Proofs.YtlkjkhpjhllapaaGreat.ptNear
open Go.Proofs.YtlkjkhpjhllapaaGreat
open Go.ChangeShapes Go.WideShapes Go.ChangeAt Go.RowKit
open Go.ChangeMaps (open_string shut_string)
set_option linter.unusedVariables false

theorem own : ownKnob Tryz.prog.godebug = none := by kernel_rfl
theorem laidOut : laidOutB Tryz.prog = true := by kernel_rfl

theorem walk (b00 : Bool) (a00 : Option Addr) (len00 cap00 : Nat) (z00 : List Int) (g00 : Option Addr) (lem00 cup00 : Nat) (y00 : List Int) (sb00 : Bool) (E00 : Option Addr) (lin00 cin00 : Nat) (zz00 : List Int) (F00 : Option Addr) (lom00 cum00 : Nat) (yy00 : List Int) (b01 : Bool) (a01 : Option Addr) (len01 cap01 : Nat) (z01 : List Int) (g01 : Option Addr) (lem01 cup01 : Nat) (y01 : List Int) (sb01 : Bool) (E01 : Option Addr) (lin01 cin01 : Nat) (zz01 : List Int) (F01 : Option Addr) (lom01 cum01 : Nat) (yy01 : List Int) (b02 : Bool) (a02 : Option Addr) (len02 cap02 : Nat) (z02 : List Int) (g02 : Option Addr) (lem02 cup02 : Nat) (y02 : List Int) (sb02 : Bool) (E02 : Option Addr) (lin02 cin02 : Nat) (zz02 : List Int) (F02 : Option Addr) (lom02 cum02 : Nat) (yy02 : List Int) (a1 : Int) (w : World) (w00 : IsRow64 w a00 len00 cap00 z00) (x00 : IsRow64 w g00 lem00 cup00 y00) (ww00 : IsRow64 w E00 lin00 cin00 zz00) (xx00 : IsRow64 w F00 lom00 cum00 yy00) (w01 : IsRow64 w a01 len01 cap01 z01) (x01 : IsRow64 w g01 lem01 cup01 y01) (ww01 : IsRow64 w E01 lin01 cin01 zz01) (xx01 : IsRow64 w F01 lom01 cum01 yy01) (w02 : IsRow64 w a02 len02 cap02 z02) (x02 : IsRow64 w g02 lem02 cup02 y02) (ww02 : IsRow64 w E02 lin02 cin02 zz02) (xx02 : IsRow64 w F02 lom02 cum02 yy02) (w1 : (Lit.int .u8 a1).wf = true) :
    Calls Tryz.prog 12 #[.agg #[.bool b00, .slice a00 len00 cap00, .slice g00 lem00 cup00, .bool sb00, .slice E00 lin00 cin00, .slice F00 lom00 cum00, .bool b01, .slice a01 len01 cap01, .slice g01 lem01 cup01, .bool sb01, .slice E01 lin01 cin01, .slice F01 lom01 cum01, .bool b02, .slice a02 len02 cap02, .slice g02 lem02 cup02, .bool sb02, .slice E02 lin02 cin02, .slice F02 lom02 cum02], .int .u8 a1] w fun e w' => e = .returned (.bool true) ∧ Below w.heap.size w w' := by
  have ht := bounds_u8 w1
  obtain ⟨t, rfl⟩ : ∃ t : Nat, a1 = (t : Int) := ⟨a1.toNat, by omega⟩
  obtain ⟨_, p00, s00, e00, _⟩ := w00.rd
  obtain ⟨_, q00, u00, f00, _⟩ := x00.rd
  obtain ⟨_, m00, h00, c00, _⟩ := ww00.rd
  obtain ⟨_, n00, k00, d00, _⟩ := xx00.rd
  obtain ⟨_, p01, s01, e01, _⟩ := w01.rd
  obtain ⟨_, q01, u01, f01, _⟩ := x01.rd
  obtain ⟨_, m01, h01, c01, _⟩ := ww01.rd
  obtain ⟨_, n01, k01, d01, _⟩ := xx01.rd
  obtain ⟨_, p02, s02, e02, _⟩ := w02.rd
  obtain ⟨_, q02, u02, f02, _⟩ := x02.rd
  obtain ⟨_, m02, h02, c02, _⟩ := ww02.rd
  obtain ⟨_, n02, k02, d02, _⟩ := xx02.rd
  exact law_near t p00 q00 m00 n00 s00 u00 h00 k00 e00 f00 c00 d00 p01 q01 m01 n01 s01 u01 h01 k01 e01 f01 c01 d01 p02 q02 m02 n02 s02 u02 h02 k02 e02 f02 c02 d02 (by omega)

set_option maxRecDepth 100000 in
theorem lifted (os : Os) (started : os.Started) (H : Type) (enc : TypeId × Value → H) :
    ReturnsInHanded {} Tryz.checked os 12 .any (Rows.ptNearSpec.pre6 enc Tryz.prog Tryz.f12 Rows.ptNearRow.domain false) (Rows.ptNearSpec.post enc Tryz.prog Tryz.f12 false true false false) := by
  refine returnsInHanded_of_change (C := Tryz.checked) own started (by kernel_rfl) Tryz.func12
    (ChangeSpec.witness6 (enc := enc) (C := Tryz.checked) false ⟨#[], #[.agg #[.bool false, .slice none 0 0, .slice none 0 0, .bool false, .slice none 0 0, .slice none 0 0, .bool false, .slice none 0 0, .slice none 0 0, .bool false, .slice none 0 0, .slice none 0 0, .bool false, .slice none 0 0, .slice none 0 0, .bool false, .slice none 0 0, .slice none 0 0], .int .u8 0], []⟩ 8 (by kernel_rfl) (by kernel_rfl) (by kernel_rfl) (by kernel_rfl)) ?_
  intro W base args ds gs before hval0 hW hcnd _
  have hval : ∀ (j : Nat) t v, Tryz.f12.params[j]? = some t → args[j]? = some v → Value.okWide Tryz.prog W .any base t v := hval0
  have hW' := hW
  obtain ⟨p, q, hA0, hV, rfl, hfz, hnd⟩ := hW
  have hA : DataW.TrodAll enc Tryz.prog W 0 (fun _ => true) true Tryz.f12.params.toList args.toList ds p := hA0
  rw [Tryz.params12] at hA hval
  obtain ⟨v0, vs0, d0, ds0, p0, q0, hargs, rfl, rfl, h0, r0⟩ := trodAll_cons hA
  obtain ⟨v1, vs1, d1, ds1, p1, q1, rfl, rfl, rfl, h1, r1⟩ := trodAll_cons r0
  obtain ⟨rfl, rfl, rfl⟩ := trodAll_nil r1
  obtain rfl : args = #[v0, v1] := by cases args; simp_all
  obtain ⟨rfl, rfl⟩ := trodVars_none hV
  have k0 := h0
  have lt0 : ∀ x ∈ p0, x.block < W.heap.size := by obtain ⟨m, hm⟩ := k0; exact DataW.trod_lt m _ _ _ hm
  obtain ⟨b00, a00, len00, cap00, z00, g00, lem00, cup00, y00, sb00, E00, lin00, cin00, zz00, F00, lom00, cum00, yy00, b01, a01, len01, cap01, z01, g01, lem01, cup01, y01, sb01, E01, lin01, cin01, zz01, F01, lom01, cum01, yy01, b02, a02, len02, cap02, z02, g02, lem02, cup02, y02, sb02, E02, lin02, cin02, zz02, F02, lom02, cum02, yy02, rfl, w00, x00, ww00, xx00, w01, x01, ww01, xx01, w02, x02, ww02, xx02⟩ := open_z3pt (hval 0 109 v0 rfl rfl) h0
  obtain ⟨a1, rfl, rfl, rfl, w1⟩ := open_int Tryz.underlying5 (hval 1 5 v1 rfl rfl) h1
  clear hA0 hval0
  refine (walk b00 a00 len00 cap00 z00 g00 lem00 cup00 y00 sb00 E00 lin00 cin00 zz00 F00 lom00 cum00 yy00 b01 a01 len01 cap01 z01 g01 lem01 cup01 y01 sb01 E01 lin01 cin01 zz01 F01 lom01 cum01 yy01 b02 a02 len02 cap02 z02 g02 lem02 cup02 y02 sb02 E02 lin02 cin02 zz02 F02 lom02 cum02 yy02 a1 W w00 x00 ww00 xx00 w01 x01 ww01 xx01 w02 x02 ww02 xx02 w1).mono fun e W' ⟨he, bel⟩ => ?_
  subst he
  exact ⟨_, rfl, _, _, _, [], _, [], hW', trodAll_mk1 (shut_bool Tryz.underlying4 _), (trodAll_cons_mk (Below.trod laidOut (by kernel_rfl) (of_decide_eq_true (by kernel_rfl)) k0 bel lt0) (trodAll_cons_mk (shut_int Tryz.underlying5 w1) trodAll_mk0)), rfl, bel.frame _, fun h => by cases h⟩

theorem over : Rows.ptNearRow.holds Tryz.pinned (OpenSpec.ofChange Rows.ptNearSpec) :=
  OpenClaim.holds_of_wide 12 Tryz.f12 rfl rfl rfl rfl rfl rfl rfl ⟨rfl, rfl, rfl, rfl, rfl⟩ rfl rfl rfl rfl rfl (by kernel_rfl) Tryz.func12 (by kernel_rfl)
    (of_decide_eq_true (by kernel_rfl)) (by unfold Func.isWrapper; first | (rw [if_pos (by decide +kernel)]; kernel_rfl) | (rw [if_neg (by decide +kernel)]; exact ⟨rfl, rfl⟩))
    (fun os started H enc _ => lifted os started H enc)

/-- The statement. -/
theorem proved : Rows.PtNearSaid := over
end Go.Proofs.YtlkjkhpjhllapaaGreat.ptNear
namespace Go.Proofs.YtlkjkhpjhllapaaGreat
/-- The statement. -/
theorem ptNear_holds : Rows.PtNearSaid := ptNear.proved
end Go.Proofs.YtlkjkhpjhllapaaGreat
