/- path's letters by value. -/
import Derived.Test.YtnapannphldglaaDoorProg
import Derived.Test.YtnapannphldglaaDoorPathM
import Derived.WalkKit
import Derived.WalkSpells
import Derived.Lib.Hide
import Derived.Deep.Draws
import Derived.Deep.QuietTactic
import Derived.LoopTactic
import Derived.RegionTactic
import Derived.BigQuiet
import Derived.BigRegion
import Derived.OwnWalk
import Derived.Deep.Light
import Derived.Lib.OthersKept
namespace Go.Proofs.YtnapannphldglaaDoor
open Go Go.RowKit

/-- The table of letters lies in its variable. -/
def LtIn (w : World) : Prop := ∃ t fr, w.heap[1]? = some (.cells ltC.toArray t fr)
theorem LtIn.lt {w : World} (h : LtIn w) : 1 < w.heap.size := by
  obtain ⟨t, fr, h⟩ := h
  rcases Nat.lt_or_ge 1 w.heap.size with q | q
  · exact q
  · rw [Array.getElem?_eq_none q] at h; cases h
theorem LtIn.below {w w' : World} {B : Nat} (h : LtIn w) (hb : Below B w w') (hB : 1 < B) : LtIn w' := by
  obtain ⟨t, fr, h⟩ := h
  exact ⟨t, fr, (hb.block 1 hB).trans h⟩
def LVT (a : Addr) : Sem Value := loadVar 146 a
theorem open_LVT (a : Addr) : loadVar 146 a = LVT a := rfl
theorem LtIn.ld {w : World} (h : LtIn w) : (LVT ⟨1, 0, none⟩).run Tryd.prog w = .ok (.agg ltC.toArray) w := by
  obtain ⟨t, fr, h⟩ := h
  exact run_loadVar_row w 1 _ _ _ fr _ h Tryd.underlying146 rfl (by kernel_rfl)
attribute [local go_sem ↓] open_LVT
set_option maxRecDepth 100000 in
theorem lt_index (W : World) {k : Nat} {x : Lt} (hx : ltT[k]? = some x) : (Instr.index 146 (.agg ltC.toArray) (.int .i64 (k : Int))).run Tryd.prog W = .ok (.agg #[.int .u8 x.n, .int .i64 x.k, .int .i64 x.p, .string x.h, .int .i64 x.f, .int .u8 x.a]) W := by
  have hk : k < 10 := (List.getElem?_eq_some_iff.1 hx).1
  simp [Instr.index, run_underlying Tryd.underlying146, asIntOf, go_sem, hk]
  match k, hx with
  | 0, hx => cases hx; rfl
  | 1, hx => cases hx; rfl
  | 2, hx => cases hx; rfl
  | 3, hx => cases hx; rfl
  | 4, hx => cases hx; rfl
  | 5, hx => cases hx; rfl
  | 6, hx => cases hx; rfl
  | 7, hx => cases hx; rfl
  | 8, hx => cases hx; rfl
  | 9, hx => cases hx; rfl
  | k + 10, hx => cases hx
/-- Block g holds a letter. -/
def LB (W : World) (g : Nat) (x : Lt) : Prop := W.heap[g]? = some (.cells #[.int .u8 x.n, .int .i64 x.k, .int .i64 x.p, .string x.h, .int .i64 x.f, .int .u8 x.a] 101 (0, 0))
section
variable {W W' : World} {g : Nat} {x : Lt}
theorem LB.lt (h : LB W g x) : g < W.heap.size := by
  rcases Nat.lt_or_ge g W.heap.size with q | q
  · exact q
  · have := Array.getElem?_eq_none q
    rw [show W.heap[g]? = _ from h] at this; cases this
theorem LB.below {B : Nat} (h : LB W g x) (hb : Below B W W') (hg : g < B) : LB W' g x := (hb.block g hg).trans h
theorem LB.new (w : World) (x : Lt) : LB (w.alloc (.cells #[.int .u8 x.n, .int .i64 x.k, .int .i64 x.p, .string x.h, .int .i64 x.f, .int .u8 x.a] 101)) w.heap.size x := heap_alloc_new w _
theorem LB.c0 (h : LB W g x) : W.cell? ⟨g, 0, none⟩ = some (.int .u8 x.n) := by rw [cell_of_row W g 0 _ _ (0, 0) h]; rfl
theorem LB.c1 (h : LB W g x) : W.cell? ⟨g, 1, none⟩ = some (.int .i64 x.k) := by rw [cell_of_row W g 1 _ _ (0, 0) h]; rfl
theorem LB.c2 (h : LB W g x) : W.cell? ⟨g, 2, none⟩ = some (.int .i64 x.p) := by rw [cell_of_row W g 2 _ _ (0, 0) h]; rfl
theorem LB.c3 (h : LB W g x) : W.cell? ⟨g, 3, none⟩ = some (.string x.h) := by rw [cell_of_row W g 3 _ _ (0, 0) h]; rfl
theorem LB.c4 (h : LB W g x) : W.cell? ⟨g, 4, none⟩ = some (.int .i64 x.f) := by rw [cell_of_row W g 4 _ _ (0, 0) h]; rfl
theorem LB.c5 (h : LB W g x) : W.cell? ⟨g, 5, none⟩ = some (.int .u8 x.a) := by rw [cell_of_row W g 5 _ _ (0, 0) h]; rfl
theorem LB.fz (h : LB W g x) (i : Nat) : W.frozen? ⟨g, i, none⟩ = false := frozen_of_row W g i _ _ h
end
theorem below_put6 {w X : World} {B g : Nat} {a0 a1 a2 a3 a4 a5 : Value} (h : Below B w X) (hg : B ≤ g) : Below B w ((((((X.setCell ⟨g, 0, none⟩ a0).setCell ⟨g, 1, none⟩ a1).setCell ⟨g, 2, none⟩ a2).setCell ⟨g, 3, none⟩ a3).setCell ⟨g, 4, none⟩ a4).setCell ⟨g, 5, none⟩ a5) :=
  (((((h.setCell hg _).setCell hg _).setCell hg _).setCell hg _).setCell hg _).setCell hg _
set_option maxRecDepth 100000 in
set_option maxHeartbeats 1000000 in
theorem letterOf_any (c : Int) (w : World) (h : LtIn w) : Calls Tryd.prog 73 #[.int .u8 c] w fun e w' => e = .returned (.tuple #[.agg ((letterOf c).getD ltZ).v.toArray, .bool (letterOf c).isSome]) ∧ Below w.heap.size w w' := by
  go_enter Tryd.func73, Tryd.ntmps73
  go_upto_region 1 with (fail)
  generalize hW : w.alloc _ = W
  have hb : Below w.heap.size w W := by subst hW; exact (Below.refl _ _).alloc (Nat.le_refl _) _
  have hl := (h.below hb h.lt).ld
  have hbx : LB W w.heap.size ltZ := by subst hW; exact LB.new w ltZ
  have hz : W.heap.size = w.heap.size + 1 := by subst hW; simp
  clear hW
  go_wp2
  go_loopw [7] (fun i wr => ∃ k : Nat, k ≤ 10 ∧ i = .int .i64 (k : Int) ∧ (∀ y ∈ ltT.take k, ¬ y.n = c) ∧ Below W.heap.size W wr) (fun i _ => 10 - (intOf i).toNat)
  case atStart => exact ⟨0, by decide, rfl, by simp, Below.refl _ _⟩
  case round =>
    obtain ⟨k, hk, rfl, hn, hbw⟩ := hrel
    have hr := hbx.below hbw hbx.lt
    have hrl := hr.lt
    have r0 := hr.c0
    have r1 := hr.c1
    have r2 := hr.c2
    have r3 := hr.c3
    have r4 := hr.c4
    have r5 := hr.c5
    have e0 := hr.fz 0
    have e1 := hr.fz 1
    have e2 := hr.fz 2
    have e3 := hr.fz 3
    have e4 := hr.fz 4
    have e5 := hr.fz 5
    have hne : ¬ w.heap.size = wr.heap.size := by omega
    have HR := Lib.hid hr
    have HB := Lib.hid hbw
    clear hr hbw hbx
    by_cases hlt : k < 10
    · obtain ⟨x, hx⟩ := lt_at hlt
      have hix := fun W => lt_index W hx
      have H := Lib.hid hx
      clear hx
      by_cases hc : x.n = c
      · subst hc
        go_wp2
        refine bodyPost_ret (v := .tuple #[.agg #[.int .u8 x.n, .int .i64 x.k, .int .i64 x.p, .string x.h, .int .i64 x.f, .int .u8 x.a], .bool true]) ?_ rfl ⟨?_, ?_⟩
        · simp [results, Tryd.results73, go_sem, r0, r1, r2, r3, r4, r5, hrl]
        · rw [letterOf_hit H.out rfl hn]; rfl
        · have hw := hb.trans (HB.out.mono hb.size)
          exact (below_put6 hw (Nat.le_refl _)).alloc (by simp; omega) _
      · go_wp2
        exact ⟨⟨k + 1, hlt, by go_num, take_snoc H.out hn hc, HB.out.alloc HB.out.size _⟩, by simp [intOf]; omega⟩
    · have : k = 10 := by omega
      subst this
      go_wp2
      refine bodyPost_ret (v := .tuple #[.agg #[.int .u8 0, .int .i64 0, .int .i64 0, .string ⟨#[]⟩, .int .i64 0, .int .u8 0], .bool false]) ?_ rfl ⟨?_, ?_⟩
      · simp [results, Tryd.results73, go_sem, r0, r1, r2, r3, r4, r5]
      · rw [letterOf_none hn]; rfl
      · with_reducible refine below_put6 ?_ (Nat.le_refl _)
        exact hb.trans (HB.out.mono hb.size)
set_option maxRecDepth 100000 in
set_option maxHeartbeats 1000000 in
theorem letterK_any (c : Int) (w : World) (h : LtIn w) : Calls Tryd.prog 47 #[.int .i64 c] w fun e w' => e = .returned (.tuple #[.agg ((letterK c).getD ltZ).v.toArray, .bool (letterK c).isSome]) ∧ Below w.heap.size w w' := by
  go_enter Tryd.func47, Tryd.ntmps47
  go_upto_region 1 with (fail)
  generalize hW : w.alloc _ = W
  have hb : Below w.heap.size w W := by subst hW; exact (Below.refl _ _).alloc (Nat.le_refl _) _
  have hl := (h.below hb h.lt).ld
  have hbx : LB W w.heap.size ltZ := by subst hW; exact LB.new w ltZ
  have hz : W.heap.size = w.heap.size + 1 := by subst hW; simp
  clear hW
  go_wp2
  go_loopw [7] (fun i wr => ∃ k : Nat, k ≤ 10 ∧ i = .int .i64 (k : Int) ∧ (∀ y ∈ ltT.take k, ¬ (y.k = c ∧ y.f = 0)) ∧ Below W.heap.size W wr) (fun i _ => 10 - (intOf i).toNat)
  case atStart => exact ⟨0, by decide, rfl, by simp, Below.refl _ _⟩
  case round =>
    obtain ⟨k, hk, rfl, hn, hbw⟩ := hrel
    have hr := hbx.below hbw hbx.lt
    have hrl := hr.lt
    have r0 := hr.c0
    have r1 := hr.c1
    have r2 := hr.c2
    have r3 := hr.c3
    have r4 := hr.c4
    have r5 := hr.c5
    have e0 := hr.fz 0
    have e1 := hr.fz 1
    have e2 := hr.fz 2
    have e3 := hr.fz 3
    have e4 := hr.fz 4
    have e5 := hr.fz 5
    have hne : ¬ w.heap.size = wr.heap.size := by omega
    have HR := Lib.hid hr
    have HB := Lib.hid hbw
    clear hr hbw hbx
    by_cases hlt : k < 10
    · obtain ⟨x, hx⟩ := lt_at hlt
      have hix := fun W => lt_index W hx
      have H := Lib.hid hx
      clear hx
      by_cases hc : x.k = c ∧ x.f = 0
      · obtain ⟨hc, hf⟩ := hc
        subst hc
        go_wp2
        refine bodyPost_ret (v := .tuple #[.agg #[.int .u8 x.n, .int .i64 x.k, .int .i64 x.p, .string x.h, .int .i64 x.f, .int .u8 x.a], .bool true]) ?_ rfl ⟨?_, ?_⟩
        · simp [results, Tryd.results47, go_sem, r0, r1, r2, r3, r4, r5, hrl, hf]
        · rw [letterK_hit H.out ⟨rfl, hf⟩ hn]; rfl
        · have hw := hb.trans (HB.out.mono hb.size)
          exact (below_put6 hw (Nat.le_refl _)).alloc (by simp; omega) _
      · have HC := Lib.hid hc
        by_cases hq : x.k = c
        all_goals (try have hf0 : ¬ x.f = 0 := fun e => hc ⟨hq, e⟩)
        all_goals clear hc
        all_goals go_wp2
        all_goals exact ⟨⟨k + 1, hlt, by go_num, take_snoc H.out hn HC.out, HB.out.alloc HB.out.size _⟩, by simp [intOf]; omega⟩
    · have : k = 10 := by omega
      subst this
      go_wp2
      refine bodyPost_ret (v := .tuple #[.agg #[.int .u8 0, .int .i64 0, .int .i64 0, .string ⟨#[]⟩, .int .i64 0, .int .u8 0], .bool false]) ?_ rfl ⟨?_, ?_⟩
      · simp [results, Tryd.results47, go_sem, r0, r1, r2, r3, r4, r5]
      · rw [letterK_none hn]; rfl
      · with_reducible refine below_put6 ?_ (Nat.le_refl _)
        exact hb.trans (HB.out.mono hb.size)
theorem letterOf_no {c : Int} {w : World} (hc : letterOf c = none) (h : LtIn w) : Calls Tryd.prog 73 #[.int .u8 c] w fun e w' => e = .returned (.tuple #[.agg #[.int .u8 0, .int .i64 0, .int .i64 0, .string ⟨#[]⟩, .int .i64 0, .int .u8 0], .bool false]) ∧ Below w.heap.size w w' := by
  have := letterOf_any c w h
  rwa [hc] at this
theorem letterOf_yes {c : Int} {w : World} {x : Lt} (hc : letterOf c = some x) (h : LtIn w) : Calls Tryd.prog 73 #[.int .u8 c] w fun e w' => e = .returned (.tuple #[.agg #[.int .u8 x.n, .int .i64 x.k, .int .i64 x.p, .string x.h, .int .i64 x.f, .int .u8 x.a], .bool true]) ∧ Below w.heap.size w w' := by
  have := letterOf_any c w h
  rwa [hc] at this
theorem letterK_no {c : Int} {w : World} (hc : letterK c = none) (h : LtIn w) : Calls Tryd.prog 47 #[.int .i64 c] w fun e w' => e = .returned (.tuple #[.agg #[.int .u8 0, .int .i64 0, .int .i64 0, .string ⟨#[]⟩, .int .i64 0, .int .u8 0], .bool false]) ∧ Below w.heap.size w w' := by
  have := letterK_any c w h
  rwa [hc] at this
theorem letterK_yes {c : Int} {w : World} {x : Lt} (hc : letterK c = some x) (h : LtIn w) : Calls Tryd.prog 47 #[.int .i64 c] w fun e w' => e = .returned (.tuple #[.agg #[.int .u8 x.n, .int .i64 x.k, .int .i64 x.p, .string x.h, .int .i64 x.f, .int .u8 x.a], .bool true]) ∧ Below w.heap.size w w' := by
  have := letterK_any c w h
  rwa [hc] at this
end Go.Proofs.YtnapannphldglaaDoor
