/- Blocks of five cells: nat's struct of steps; words that fit. -/
import Derived.Test.YthdpllhpdjhogaaGcdB
import Derived.Test.YthdpllhpdjhogaaGrow
import Derived.Handy
import Derived.Deep.RegionHeld3
namespace Go.Proofs.Ythdpllhpdjhogaa
open Go.RowKit

abbrev tSteps : TypeId := 74
/-- The steps as values. -/
def stepV (u0 v0 u1 v1 : Nat) (ev : Bool) : List Value := [.int .u64 (u0 : Int), .int .u64 (v0 : Int), .int .u64 (u1 : Int), .int .u64 (v1 : Int), .bool ev]

theorem Vow.below {e : TypeId} {w w' : World} {g : Nat} {V : List Value} (h : Vow e w g V) (hb : Below w.heap.size w w') : Vow e w' g V := by
  have hlt : g < w.heap.size := by
    rcases Nat.lt_or_ge g w.heap.size with hlt | hge
    · exact hlt
    · unfold Vow at h; rw [Array.getElem?_eq_none hge] at h; cases h
  exact (hb.block g hlt).trans h
theorem Vow.lt {e : TypeId} {w : World} {g : Nat} {V : List Value} (h : Vow e w g V) : g < w.heap.size := by
  rcases Nat.lt_or_ge g w.heap.size with hlt | hge
  · exact hlt
  · unfold Vow at h; rw [Array.getElem?_eq_none hge] at h; cases h
theorem Vow.other {e : TypeId} {w : World} {g k i : Nat} {V : List Value} (h : Vow e w g V) (hne : g ≠ k) (u : Value) : Vow e (w.setCell ⟨k, i, none⟩ u) g V :=
  (Below.heap_setCell _ _ _ _ hne).trans h

theorem Vow.c0 {e : TypeId} {w : World} {g : Nat} {a b c d f : Value} (h : Vow e w g [a, b, c, d, f]) : w.cell? ⟨g, 0, none⟩ = some a := h.cell rfl
theorem Vow.c1 {e : TypeId} {w : World} {g : Nat} {a b c d f : Value} (h : Vow e w g [a, b, c, d, f]) : w.cell? ⟨g, 1, none⟩ = some b := h.cell rfl
theorem Vow.c2 {e : TypeId} {w : World} {g : Nat} {a b c d f : Value} (h : Vow e w g [a, b, c, d, f]) : w.cell? ⟨g, 2, none⟩ = some c := h.cell rfl
theorem Vow.c3 {e : TypeId} {w : World} {g : Nat} {a b c d f : Value} (h : Vow e w g [a, b, c, d, f]) : w.cell? ⟨g, 3, none⟩ = some d := h.cell rfl
theorem Vow.c4 {e : TypeId} {w : World} {g : Nat} {a b c d f : Value} (h : Vow e w g [a, b, c, d, f]) : w.cell? ⟨g, 4, none⟩ = some f := h.cell rfl
theorem wrap_fit (x : Nat) (h : x < B64) : IntKind.u64.wrap (x : Int) = (x : Int) := by rw [wrap_nat, Nat.mod_eq_of_lt h]
theorem heap_alloc_new' (w : World) (o : Obj) (g : Nat) (hg : g = w.heap.size) : (w.alloc o).heap[g]? = some o := by subst hg; exact heap_alloc_new w o
theorem hi_lt {V a0 : Nat} (h : V / hiT V = a0) : a0 < B64 := by
  subst h
  refine Nat.div_lt_of_lt_mul (Nat.lt_of_lt_of_le (lt_bl V) ?_)
  unfold hiT
  rw [show B64 = 2 ^ 64 from rfl, ← Nat.pow_add]
  exact Nat.pow_le_pow_right (by omega) (by omega)
theorem wrap_sub {a b D : Nat} (h : D + b = a) (ha : a < B64) : IntKind.u64.wrap ((a : Int) - (b : Int)) = (D : Int) := by
  rw [show (a : Int) - (b : Int) = (D : Int) by omega]; exact wrap_fit D (by omega)
theorem wrap_sum {a b S : Nat} (h : S = a + b) (hS : S < B64) : IntKind.u64.wrap ((a : Int) + (b : Int)) = (S : Int) := by
  rw [show (a : Int) + (b : Int) = (S : Int) by omega]; exact wrap_fit S hS
theorem wrap_prod {a b P : Nat} (h : P = a * b) (hP : P < B64) : IntKind.u64.wrap ((a : Int) * (b : Int)) = (P : Int) := by
  rw [← Int.natCast_mul, ← h]; exact wrap_fit P hP

theorem held5 {w : World} {r g : Nat} {x0 x1 x2 x3 x4 : Value} (y0 y1 y2 y3 y4 : Value) (h : r ≠ g) (hc : w.cell? ⟨g, 0, none⟩ = some x0 ∧ w.cell? ⟨g, 1, none⟩ = some x1 ∧ w.cell? ⟨g, 2, none⟩ = some x2 ∧ w.cell? ⟨g, 3, none⟩ = some x3 ∧ w.cell? ⟨g, 4, none⟩ = some x4) :
    (((((w.setCell ⟨r, 0, none⟩ y0).setCell ⟨r, 1, none⟩ y1).setCell ⟨r, 2, none⟩ y2).setCell ⟨r, 3, none⟩ y3).setCell ⟨r, 4, none⟩ y4).drew.cell? ⟨g, 0, none⟩ = some x0 ∧
    (((((w.setCell ⟨r, 0, none⟩ y0).setCell ⟨r, 1, none⟩ y1).setCell ⟨r, 2, none⟩ y2).setCell ⟨r, 3, none⟩ y3).setCell ⟨r, 4, none⟩ y4).drew.cell? ⟨g, 1, none⟩ = some x1 ∧
    (((((w.setCell ⟨r, 0, none⟩ y0).setCell ⟨r, 1, none⟩ y1).setCell ⟨r, 2, none⟩ y2).setCell ⟨r, 3, none⟩ y3).setCell ⟨r, 4, none⟩ y4).drew.cell? ⟨g, 2, none⟩ = some x2 ∧
    (((((w.setCell ⟨r, 0, none⟩ y0).setCell ⟨r, 1, none⟩ y1).setCell ⟨r, 2, none⟩ y2).setCell ⟨r, 3, none⟩ y3).setCell ⟨r, 4, none⟩ y4).drew.cell? ⟨g, 3, none⟩ = some x3 ∧
    (((((w.setCell ⟨r, 0, none⟩ y0).setCell ⟨r, 1, none⟩ y1).setCell ⟨r, 2, none⟩ y2).setCell ⟨r, 3, none⟩ y3).setCell ⟨r, 4, none⟩ y4).drew.cell? ⟨g, 4, none⟩ = some x4 := by
  have hg : g ≠ r := fun e => h e.symm
  have e : ∀ W : World, (∀ o, W.cell? ⟨g, o, none⟩ = w.cell? ⟨g, o, none⟩) → ∀ i y o, (W.setCell ⟨r, i, none⟩ y).cell? ⟨g, o, none⟩ = w.cell? ⟨g, o, none⟩ := fun W hW i y o => (World.cell?_of_block (Below.heap_setCell _ _ _ _ hg)).trans (hW o)
  have f0 := e w (fun _ => rfl) 0 y0
  have f1 := e _ f0 1 y1
  have f2 := e _ f1 2 y2
  have f3 := e _ f2 3 y3
  have f := e _ f3 4 y4
  simp only [World.cell?_drew]
  exact ⟨(f 0).trans hc.1, (f 1).trans hc.2.1, (f 2).trans hc.2.2.1, (f 3).trans hc.2.2.2.1, (f 4).trans hc.2.2.2.2⟩

theorem below_set5 {B r : Nat} {w W : World} (h : Below B w W) (hr : B ≤ r) (y0 y1 y2 y3 y4 : Value) :
    Below B w (((((W.setCell ⟨r, 0, none⟩ y0).setCell ⟨r, 1, none⟩ y1).setCell ⟨r, 2, none⟩ y2).setCell ⟨r, 3, none⟩ y3).setCell ⟨r, 4, none⟩ y4).drew :=
  (((((h.setCell (p := ⟨r, 0, none⟩) hr y0).setCell (p := ⟨r, 1, none⟩) hr y1).setCell (p := ⟨r, 2, none⟩) hr y2).setCell (p := ⟨r, 3, none⟩) hr y3).setCell (p := ⟨r, 4, none⟩) hr y4).drew
end Go.Proofs.Ythdpllhpdjhogaa
