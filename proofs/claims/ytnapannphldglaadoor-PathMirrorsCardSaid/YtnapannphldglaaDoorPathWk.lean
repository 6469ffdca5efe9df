/- gessolaw11.wakes. -/
import Derived.Test.YtnapannphldglaaDoorPathZ
namespace Go.Proofs.YtnapannphldglaaDoor
open Go Go.RowKit

theorem wk_of1 {w : World} (h : LtIn w) : Calls Tryd.prog 14 #[.string ⟨#[77, 48, 32, 48, 108, 54, 52, 32, 48, 122]⟩] w fun e w' => ∃ g c, e = .returned (.tuple #[.slice (some ⟨g, 0, none⟩) 3 c, .int .i64 0, .int .i64 0]) ∧ g < w'.heap.size ∧ w'.cell? ⟨g, 8, none⟩ = some (.int .i64 2) ∧ w'.cell? ⟨g, 9, none⟩ = some (.int .i64 64) ∧ SGV w' (some ⟨g, 0, none⟩) wkL ∧ Below w.heap.size w w' := by
  refine (of11 (s := ⟨#[77, 48, 32, 48, 108, 54, 52, 32, 48, 122]⟩) (by decide) h).mono fun e w' hg => ?_
  rw [wk_1] at hg
  obtain ⟨⟨_, A, c, he, hr⟩, hb⟩ := hg
  have hv := SGV.of_row hr rfl
  obtain ⟨g, cap, hv2, _, hlt⟩ := hr.form (by decide)
  cases hv2
  refine ⟨g, c, he, hlt, hr.cellAt 8 (by decide), hr.cellAt 9 (by decide), hv, hb⟩
theorem wk_of2 {w : World} (h : LtIn w) : Calls Tryd.prog 14 #[.string ⟨#[77, 48, 32, 48, 32, 76, 53]⟩] w fun e w' => e = .returned (.tuple #[.slice none 0 0, .int .i64 7, .int .i64 20]) ∧ Below w.heap.size w w' := by
  refine (of11 (s := ⟨#[77, 48, 32, 48, 32, 76, 53]⟩) (by decide) h).mono fun e w' hg => ?_
  rw [wk_2] at hg
  exact hg
theorem wk_of3 {w : World} (h : LtIn w) : Calls Tryd.prog 14 #[.string ⟨#[77, 48, 32, 50, 49, 52, 55, 52, 56, 51, 54, 52, 56]⟩] w fun e w' => e = .returned (.tuple #[.slice none 0 0, .int .i64 3, .int .i64 21]) ∧ Below w.heap.size w w' := by
  refine (of11 (s := ⟨#[77, 48, 32, 50, 49, 52, 55, 52, 56, 51, 54, 52, 56]⟩) (by decide) h).mono fun e w' hg => ?_
  rw [wk_3] at hg
  exact hg
theorem wk_txt {w : World} {A : Option Addr} {c : Nat} (h : LD w) (hv : SGV w A wkL) : Calls Tryd.prog 23 #[.slice A 3 c] w fun e w' => e = .returned (.tuple #[.string ⟨#[77, 32, 48, 32, 48, 32, 76, 32, 54, 52, 32, 48, 32, 90]⟩, .int .i64 0]) ∧ Below w.heap.size w w' := by
  have := text_go (c := c) h.l h.t hv rfl wk_g
  rw [wk_t] at this
  exact this
theorem wk_good {w : World} {A : Option Addr} {c : Nat} (h : LD w) (hv : SGV w A wkL) : Calls Tryd.prog 24 #[.slice A 3 c] w fun e w' => e = .returned (.bool true) ∧ Below w.heap.size w w' := by
  have := good_any (c := c) h.l hv rfl
  rw [wk_g] at this
  exact this
set_option maxRecDepth 100000 in
set_option maxHeartbeats 4000000 in
theorem wakes11 {w : World} (h : LD w) : Calls Tryd.prog 10 #[] w fun e w' => e = .returned (.bool true) ∧ Below w.heap.size w w' := by
  have H := Lib.hid h
  clear h
  go_enter Tryd.func10, Tryd.ntmps10
  go_wp2_with (first
    | (go_at_call 14; (with_reducible refine (wk_of1 H.out.l).mono ?_); rintro e w1 ⟨g, c, rfl, hg, c8, c9, hv, hb1⟩; have HB1 := Lib.hid hb1; have HD1 := Lib.hid (H.out.below hb1); have HV1 := Lib.hid hv; have HC := Lib.hid (And.intro c8 c9); clear hv hb1 c8 c9)
    | (go_at_call 14; (with_reducible refine (wk_of2 HD1.out.l).mono ?_); rintro e w2 ⟨rfl, hb2⟩; have HB2 := Lib.hid (HB1.out.trans (hb2.mono HB1.out.size)); have HD2 := Lib.hid (HD1.out.below hb2); have HV2 := Lib.hid (HV1.out.below hb2); have HC2 : Hid (w2.cell? ⟨g, 8, none⟩ = some (.int .i64 2) ∧ w2.cell? ⟨g, 9, none⟩ = some (.int .i64 64)) := ⟨(hb2.cell (p := ⟨g, 8, none⟩) hg).trans HC.out.1, (hb2.cell (p := ⟨g, 9, none⟩) hg).trans HC.out.2⟩; have hg2 : g < w2.heap.size := Nat.lt_of_lt_of_le hg hb2.size; clear hb2)
    | (go_at_call 14; (with_reducible refine (wk_of3 HD2.out.l).mono ?_); rintro e w3 ⟨rfl, hb3⟩; have HB3 := Lib.hid (HB2.out.trans (hb3.mono HB2.out.size)); have HD3 := Lib.hid (HD2.out.below hb3); have HV3 := Lib.hid (HV2.out.below hb3); have HC3 : Hid (w3.cell? ⟨g, 8, none⟩ = some (.int .i64 2) ∧ w3.cell? ⟨g, 9, none⟩ = some (.int .i64 64)) := ⟨(hb3.cell (p := ⟨g, 8, none⟩) hg2).trans HC2.out.1, (hb3.cell (p := ⟨g, 9, none⟩) hg2).trans HC2.out.2⟩; have hg3 : g < w3.heap.size := Nat.lt_of_lt_of_le hg2 hb3.size; clear hb3)
    | (go_at_call 23; (with_reducible refine (wk_txt HD3.out HV3.out).mono ?_); rintro e w4 ⟨rfl, hb4⟩; have HB4 := Lib.hid (HB3.out.trans (hb4.mono HB3.out.size)); have HD4 := Lib.hid (HD3.out.below hb4); have HV4 := Lib.hid (HV3.out.below hb4); have q8 := (hb4.cell (p := ⟨g, 8, none⟩) hg3).trans HC3.out.1; have q9 := (hb4.cell (p := ⟨g, 9, none⟩) hg3).trans HC3.out.2; clear hb4)
    | (go_at_call 24; (with_reducible refine (wk_good HD4.out HV4.out).mono ?_); rintro e w5 ⟨rfl, hb5⟩; have HB5 := Lib.hid (HB4.out.trans (hb5.mono HB4.out.size)); clear hb5))
  go_ret
  exact ⟨rfl, HB5.out⟩
end Go.Proofs.YtnapannphldglaaDoor
