/- The law SegMeets holds: for every input it returns true and its arguments read as they did; no condition. -/
import Derived.Test.YtmgklaklnaihpaaGreatRows
import Derived.WalkKit
import Derived.ProofKit
import Derived.OpenShut
import Derived.ShutString
import Derived.Below
import Derived.Test.YtmgklaklnaihpaaGreatKSegMeets0
import Derived.Test.YtmgklaklnaihpaaGreatKSegMeets20
namespace Go.Proofs.YtmgklaklnaihpaaGreat
open Go Go.RowKit
theorem B64_eq' : B64 = 18446744073709551616 := rfl
theorem rd_of_row {w : World} {a : Option Addr} {len cap : Nat} {zs : List Int}
    (h : (a = none ∧ len = 0 ∧ cap = 0 ∧ zs = []) ∨
      ∃ x, a = some x ∧ len ≤ cap ∧ cap ≤ maxLen ∧ zs.length = cap ∧ (∀ i, i < zs.length → w.cell? (x.add i) = some (.int .u64 (zs.getD i 0))) ∧ ∀ n ∈ zs, (Lit.int .u64 n).wf = true) :
    ∃ l : List Nat, Rd .u64 w a len l ∧ Lim B64 l ∧ len ≤ cap ∧ cap ≤ maxLen := by
  rcases h with ⟨rfl, rfl, rfl, rfl⟩ | ⟨x, rfl, hl, hm, hz, hc, hw⟩
  · exact ⟨[], Rd.nil, Lim.nil, Nat.le_refl _, Nat.zero_le _⟩
  · refine ⟨(zs.take len).map Int.toNat, ⟨by simp; omega, fun hn => ?_⟩, ?_, hl, hm⟩
    · obtain ⟨b, o, spot⟩ := x
      have h0 := hc 0 (by omega)
      have hspot : spot = none := by simpa [Addr.add] using World.cell?_spot h0
      subst hspot
      refine ⟨b, o, rfl, fun j y hy => ?_⟩
      have hj : j < len := by
        have := (List.getElem?_eq_some_iff.1 hy).1
        simp at this; omega
      have := hc j (by omega)
      rw [add_at] at this
      rw [this]
      rw [List.getElem?_map, List.getElem?_take, if_pos hj, List.getElem?_eq_getElem (by omega)] at hy
      simp only [Option.map_some, Option.some.injEq] at hy
      have hb := bounds_u64 (hw _ (List.getElem_mem (show j < zs.length by omega)))
      rw [List.getD_eq_getElem?_getD, List.getElem?_eq_getElem (by omega), Option.getD_some, ← hy, Int.toNat_of_nonneg hb.1]
    · intro y hy
      obtain ⟨z, hz2, rfl⟩ := List.mem_map.1 hy
      have hb := bounds_u64 (hw z (List.mem_of_mem_take hz2))
      rw [B64_eq']
      omega
theorem IsRow64.rd {w : World} {a : Option Addr} {len cap : Nat} {zs : List Int} (h : IsRow64 w a len cap zs) : ∃ l : List Nat, Rd .u64 w a len l ∧ Lim B64 l ∧ len ≤ cap ∧ cap ≤ maxLen := rd_of_row h
end Go.Proofs.YtmgklaklnaihpaaGreat
namespace Go.Proofs.YtmgklaklnaihpaaGreat.segMeets
open Go.Proofs.YtmgklaklnaihpaaGreat
open Go.ChangeShapes Go.WideShapes Go.ChangeAt Go.RowKit
open Go.ChangeMaps (open_string shut_string)
set_option linter.unusedVariables false

theorem own : ownKnob Tryz.prog.godebug = none := by kernel_rfl
theorem laidOut : laidOutB Tryz.prog = true := by kernel_rfl

theorem walk (b00 : Bool) (a00 : Option Addr) (len00 cap00 : Nat) (z00 : List Int) (g00 : Option Addr) (lem00 cup00 : Nat) (y00 : List Int) (sb00 : Bool) (E00 : Option Addr) (lin00 cin00 : Nat) (zz00 : List Int) (F00 : Option Addr) (lom00 cum00 : Nat) (yy00 : List Int) (b01 : Bool) (a01 : Option Addr) (len01 cap01 : Nat) (z01 : List Int) (g01 : Option Addr) (lem01 cup01 : Nat) (y01 : List Int) (sb01 : Bool) (E01 : Option Addr) (lin01 cin01 : Nat) (zz01 : List Int) (F01 : Option Addr) (lom01 cum01 : Nat) (yy01 : List Int) (b02 : Bool) (a02 : Option Addr) (len02 cap02 : Nat) (z02 : List Int) (g02 : Option Addr) (lem02 cup02 : Nat) (y02 : List Int) (sb02 : Bool) (E02 : Option Addr) (lin02 cin02 : Nat) (zz02 : List Int) (F02 : Option Addr) (lom02 cum02 : Nat) (yy02 : List Int) (b03 : Bool) (a03 : Option Addr) (len03 cap03 : Nat) (z03 : List Int) (g03 : Option Addr) (lem03 cup03 : Nat) (y03 : List Int) (sb03 : Bool) (E03 : Option Addr) (lin03 cin03 : Nat) (zz03 : List Int) (F03 : Option Addr) (lom03 cum03 : Nat) (yy03 : List Int) (w : World) (w00 : IsRow64 w a00 len00 cap00 z00) (x00 : IsRow64 w g00 lem00 cup00 y00) (ww00 : IsRow64 w E00 lin00 cin00 zz00) (xx00 : IsRow64 w F00 lom00 cum00 yy00) (w01 : IsRow64 w a01 len01 cap01 z01) (x01 : IsRow64 w g01 lem01 cup01 y01) (ww01 : IsRow64 w E01 lin01 cin01 zz01) (xx01 : IsRow64 w F01 lom01 cum01 yy01) (w02 : IsRow64 w a02 len02 cap02 z02) (x02 : IsRow64 w g02 lem02 cup02 y02) (ww02 : IsRow64 w E02 lin02 cin02 zz02) (xx02 : IsRow64 w F02 lom02 cum02 yy02) (w03 : IsRow64 w a03 len03 cap03 z03) (x03 : IsRow64 w g03 lem03 cup03 y03) (ww03 : IsRow64 w E03 lin03 cin03 zz03) (xx03 : IsRow64 w F03 lom03 cum03 yy03) :
    Calls Tryz.prog 5 #[.agg #[.bool b00, .slice a00 len00 cap00, .slice g00 lem00 cup00, .bool sb00, .slice E00 lin00 cin00, .slice F00 lom00 cum00, .bool b01, .slice a01 len01 cap01, .slice g01 lem01 cup01, .bool sb01, .slice E01 lin01 cin01, .slice F01 lom01 cum01, .bool b02, .slice a02 len02 cap02, .slice g02 lem02 cup02, .bool sb02, .slice E02 lin02 cin02, .slice F02 lom02 cum02, .bool b03, .slice a03 len03 cap03, .slice g03 lem03 cup03, .bool sb03, .slice E03 lin03 cin03, .slice F03 lom03 cum03]] w fun e w' => e = .returned (.bool true) ∧ Below w.heap.size w w' := by
  obtain ⟨_, p0, s0, e0, _⟩ := w00.rd
  obtain ⟨_, q0, u0, f0, _⟩ := x00.rd
  obtain ⟨_, m0, h0, c0, _⟩ := ww00.rd
  obtain ⟨_, n0, k0, d0, _⟩ := xx00.rd
  obtain ⟨_, p1, s1, e1, _⟩ := w01.rd
  obtain ⟨_, q1, u1, f1, _⟩ := x01.rd
  obtain ⟨_, m1, h1, c1, _⟩ := ww01.rd
  obtain ⟨_, n1, k1, d1, _⟩ := xx01.rd
  obtain ⟨_, p2, s2, e2, _⟩ := w02.rd
  obtain ⟨_, q2, u2, f2, _⟩ := x02.rd
  obtain ⟨_, m2, h2, c2, _⟩ := ww02.rd
  obtain ⟨_, n2, k2, d2, _⟩ := xx02.rd
  obtain ⟨_, p3, s3, e3, _⟩ := w03.rd
  obtain ⟨_, q3, u3, f3, _⟩ := x03.rd
  obtain ⟨_, m3, h3, c3, _⟩ := ww03.rd
  obtain ⟨_, n3, k3, d3, _⟩ := xx03.rd
  exact law_meets p0 q0 m0 n0 s0 u0 h0 k0 e0 f0 c0 d0 p1 q1 m1 n1 s1 u1 h1 k1 e1 f1 c1 d1 p2 q2 m2 n2 s2 u2 h2 k2 e2 f2 c2 d2 p3 q3 m3 n3 s3 u3 h3 k3 e3 f3 c3 d3

set_option maxRecDepth 100000 in
theorem lifted (os : Os) (started : os.Started) (H : Type) (enc : TypeId × Value → H) :
    ReturnsInHanded {} Tryz.checked os 5 .any (Rows.segMeetsSpec.pre6 enc Tryz.prog Tryz.f5 Rows.segMeetsRow.domain false) (Rows.segMeetsSpec.post enc Tryz.prog Tryz.f5 false true false false) := by
  refine returnsInHanded_of_change (C := Tryz.checked) own started (by kernel_rfl) Tryz.func5
    (ChangeSpec.witness6 (enc := enc) (C := Tryz.checked) false ⟨#[], #[.agg #[.bool false, .slice none 0 0, .slice none 0 0, .bool false, .slice none 0 0, .slice none 0 0, .bool false, .slice none 0 0, .slice none 0 0, .bool false, .slice none 0 0, .slice none 0 0, .bool false, .slice none 0 0, .slice none 0 0, .bool false, .slice none 0 0, .slice none 0 0, .bool false, .slice none 0 0, .slice none 0 0, .bool false, .slice none 0 0, .slice none 0 0]], []⟩ 8 (by kernel_rfl) (by kernel_rfl) (by kernel_rfl) (by kernel_rfl)) ?_
  intro W base args ds gs before hval0 hW hcnd _
  have hval : ∀ (j : Nat) t v, Tryz.f5.params[j]? = some t → args[j]? = some v → Value.okWide Tryz.prog W .any base t v := hval0
  have hW' := hW
  obtain ⟨p, q, hA0, hV, rfl, hfz, hnd⟩ := hW
  have hA : DataW.TrodAll enc Tryz.prog W 0 (fun _ => true) true Tryz.f5.params.toList args.toList ds p := hA0
  rw [Tryz.params5] at hA hval
  obtain ⟨v0, vs0, d0, ds0, p0, q0, hargs, rfl, rfl, h0, r0⟩ := trodAll_cons hA
  obtain ⟨rfl, rfl, rfl⟩ := trodAll_nil r0
  obtain rfl : args = #[v0] := by cases args; simp_all
  obtain ⟨rfl, rfl⟩ := trodVars_none hV
  have k0 := h0
  have lt0 : ∀ x ∈ p0, x.block < W.heap.size := by obtain ⟨m, hm⟩ := k0; exact DataW.trod_lt m _ _ _ hm
  obtain ⟨b00, a00, len00, cap00, z00, g00, lem00, cup00, y00, sb00, E00, lin00, cin00, zz00, F00, lom00, cum00, yy00, b01, a01, len01, cap01, z01, g01, lem01, cup01, y01, sb01, E01, lin01, cin01, zz01, F01, lom01, cum01, yy01, b02, a02, len02, cap02, z02, g02, lem02, cup02, y02, sb02, E02, lin02, cin02, zz02, F02, lom02, cum02, yy02, b03, a03, len03, cap03, z03, g03, lem03, cup03, y03, sb03, E03, lin03, cin03, zz03, F03, lom03, cum03, yy03, rfl, w00, x00, ww00, xx00, w01, x01, ww01, xx01, w02, x02, ww02, xx02, w03, x03, ww03, xx03⟩ := open_z4pt (hval 0 57 v0 rfl rfl) h0
  clear hA0 hval0
  refine (walk b00 a00 len00 cap00 z00 g00 lem00 cup00 y00 sb00 E00 lin00 cin00 zz00 F00 lom00 cum00 yy00 b01 a01 len01 cap01 z01 g01 lem01 cup01 y01 sb01 E01 lin01 cin01 zz01 F01 lom01 cum01 yy01 b02 a02 len02 cap02 z02 g02 lem02 cup02 y02 sb02 E02 lin02 cin02 zz02 F02 lom02 cum02 yy02 b03 a03 len03 cap03 z03 g03 lem03 cup03 y03 sb03 E03 lin03 cin03 zz03 F03 lom03 cum03 yy03 W w00 x00 ww00 xx00 w01 x01 ww01 xx01 w02 x02 ww02 xx02 w03 x03 ww03 xx03).mono fun e W' ⟨he, bel⟩ => ?_
  subst he
  exact ⟨_, rfl, _, _, _, [], _, [], hW', trodAll_mk1 (shut_bool Tryz.underlying4 _), (trodAll_cons_mk (Below.trod laidOut (by kernel_rfl) (of_decide_eq_true (by kernel_rfl)) k0 bel lt0) trodAll_mk0), rfl, bel.frame _, fun h => by cases h⟩

theorem over : Rows.segMeetsRow.holds Tryz.pinned (OpenSpec.ofChange Rows.segMeetsSpec) :=
  OpenClaim.holds_of_wide 5 Tryz.f5 rfl rfl rfl rfl rfl rfl rfl ⟨rfl, rfl, rfl, rfl, rfl⟩ rfl rfl rfl rfl rfl (by kernel_rfl) Tryz.func5 (by kernel_rfl)
    (of_decide_eq_true (by kernel_rfl)) (by unfold Func.isWrapper; first | (rw [if_pos (by decide +kernel)]; kernel_rfl) | (rw [if_neg (by decide +kernel)]; exact ⟨rfl, rfl⟩))
    (fun os started H enc _ => lifted os started H enc)

/-- The statement. -/
theorem proved : Rows.SegMeetsSaid := over
end Go.Proofs.YtmgklaklnaihpaaGreat.segMeets
namespace Go.Proofs.YtmgklaklnaihpaaGreat
/-- The statement. -/
theorem segMeets_holds : Rows.SegMeetsSaid := segMeets.proved
end Go.Proofs.YtmgklaklnaihpaaGreat
