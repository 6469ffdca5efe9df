/- Structs of a sign and limbs in memory; zed.number; what it tells as an integer. -/
import Derived.Test.YtflcgeehpboldaaAdd
import Derived.Test.YtflcgeehpboldaaMulF
import Derived.Deep.RegionHeld3
import Derived.Handy
namespace Go.Proofs.Ytflcgeehpboldaa
open Go.RowKit

/-- Block g holds a struct of two cells, none of them frozen. -/
def Bx (W : World) (g : Nat) (x y : Value) : Prop := W.heap[g]? = some (.cells #[x, y] 24 (0, 0))

section
variable {W W' : World} {g : Nat} {x y : Value}
theorem Bx.c0 (h : Bx W g x y) : W.cell? ⟨g, 0, none⟩ = some x := by rw [cell_of_row W g 0 _ _ (0, 0) h]; rfl
theorem Bx.c1 (h : Bx W g x y) : W.cell? ⟨g, 1, none⟩ = some y := by rw [cell_of_row W g 1 _ _ (0, 0) h]; rfl
theorem Bx.f0 (h : Bx W g x y) : W.frozen? ⟨g, 0, none⟩ = false := frozen_of_row W g 0 _ _ h
theorem Bx.f1 (h : Bx W g x y) : W.frozen? ⟨g, 1, none⟩ = false := frozen_of_row W g 1 _ _ h
theorem Bx.lt (h : Bx W g x y) : g < W.heap.size := World.block_lt_of_cell? W _ h.c0
theorem Bx.below (h : Bx W g x y) (hb : Below W.heap.size W W') : Bx W' g x y := (hb.block g h.lt).trans h
theorem Bx.below_lt {B : Nat} (h : Bx W g x y) (hb : Below B W W') (hg : g < B) : Bx W' g x y := (hb.block g hg).trans h
theorem Bx.drew (h : Bx W g x y) : Bx W.drew g x y := h
theorem Bx.alloc (h : Bx W g x y) (o : Obj) : Bx (W.alloc o) g x y := (Below.heap_alloc W o g h.lt).trans h
theorem Bx.new (W : World) (x y : Value) : Bx (W.alloc (.cells #[x, y] 24)) W.heap.size x y := heap_alloc_new W _
theorem Bx.new' (W : World) (x y : Value) (g : Nat) (hg : g = W.heap.size) : Bx (W.alloc (.cells #[x, y] 24)) g x y := by subst hg; exact Bx.new W x y
theorem set2_cell (W : World) (g k o : Nat) (x y : Value) (h : k ≠ g) : ((W.setCell ⟨g, 0, none⟩ x).setCell ⟨g, 1, none⟩ y).cell? ⟨k, o, none⟩ = W.cell? ⟨k, o, none⟩ := by
  rw [World.cell?_of_block (Below.heap_setCell _ _ _ _ h), World.cell?_of_block (Below.heap_setCell _ _ _ _ h)]
theorem Bx.set2 (h : Bx W g x y) (u v : Value) : Bx ((W.setCell ⟨g, 0, none⟩ u).setCell ⟨g, 1, none⟩ v) g u v := by
  unfold Bx at h ⊢
  simp [World.setCell, Array.getElem?_modify, h]
end

theorem number_any (neg : Bool) (A : Option Addr) (n c : Nat) (w : World) :
    Calls Try.prog 43 #[.bool neg, .slice A n c] w fun e w' => e = .returned (.agg #[.bool (neg && decide (0 < n)), .slice A n c]) ∧ Below w.heap.size w w' := by
  cases neg
  · go_enter Try.func43, Try.ntmps43
    go_wp2
    go_returns
    exact ⟨rfl, (Below.refl _ _).alloc (Nat.le_refl _) _⟩
  · go_enter Try.func43, Try.ntmps43
    go_wp2
    go_returns
    exact ⟨by simp, (Below.refl _ _).alloc (Nat.le_refl _) _⟩

/-- The number whose Neg is s and whose limbs come to V. -/
def iv (s : Bool) (V : Nat) : Int := if s then -(V : Int) else V
theorem iv_natAbs (s : Bool) (V : Nat) : (iv s V).natAbs = V := by cases s <;> simp [iv]
theorem iv_neg (s : Bool) (V : Nat) : decide (iv s V < 0) = (s && decide (0 < V)) := by
  cases s
  · simp [iv]
  · simp [iv]

/-- The call returns a struct whose limbs are its own: the good form of v; nothing that was there has changed. -/
def GivesI (w : World) (v : Int) (e : Ending) (w' : World) : Prop :=
  ∃ A n c, e = .returned (.agg #[.bool (decide (v < 0)), .slice A n c]) ∧ n ≤ c ∧ c ≤ maxLen ∧ Fr .u64 82 w' w.heap.size A n c (limbs B64 v.natAbs) ∧ Below w.heap.size w w'

theorem limbs_len_pos {V n : Nat} (h : (limbs B64 V).length = n) : decide (0 < n) = decide (0 < V) := by
  rcases Nat.eq_zero_or_pos V with h0 | h0
  · subst h0; rw [limbs_zero] at h; subst h; rfl
  · have h1 : 0 < n := by
      rw [limbs_pos B64_two (by omega)] at h; simp at h; omega
    simp [h0, h1]

theorem Fr.base {K : IntKind} {e : TypeId} {w : World} {B n c : Nat} {A : Option Addr} {l : List Nat} (h : Fr K e w B A n c l) : ∀ ad, A = some ad → B ≤ ad.block := by
  intro ad hA
  rcases h.2.2 with ⟨h2, _⟩ | ⟨g, cap, cur, hv, hg, r⟩
  · subst hA; cases h2
  · subst hA
    injection hv with ha
    injection ha with ha
    subst ha
    exact hg

/-- What Add and its like leave behind the store of the result. -/
theorem close_i {w W w1 w2 : World} {s : Bool} {V g B1 : Nat} {v : Int} {A1 : Option Addr} {n1 k1 : Nat} (hb0 : Below w.heap.size w W) (hg0 : w.heap.size ≤ g) (hg : g < B1) (hv : v = iv s V)
    (p1 : n1 ≤ k1) (p2 : k1 ≤ maxLen) (p3 : Fr .u64 82 w1 B1 A1 n1 k1 (limbs B64 V)) (p4 : Below W.heap.size W w1) (q4 : Below w1.heap.size w1 w2) (u x : Value) :
    GivesI w v (.returned (.agg #[.bool (s && decide (0 < n1)), .slice A1 n1 k1])) ((w2.setCell ⟨g, 0, none⟩ u).setCell ⟨g, 1, none⟩ x) := by
  subst hv
  have h1 : W.heap.size ≤ w1.heap.size := p4.size
  have h2 : w.heap.size ≤ W.heap.size := hb0.size
  have hbl : Below w.heap.size w w2 := hb0.trans ((p4.mono h2).trans (q4.mono (by omega)))
  refine ⟨A1, n1, k1, ?_, p1, p2, ?_, (hbl.setCell hg0 _).setCell hg0 _⟩
  · rw [iv_neg, limbs_len_pos p3.1]
  · rw [iv_natAbs]
    refine Fr.only (g := g) ((p3.more (by omega)).below q4 (Nat.le_refl _)) (((Only.refl g w2).setCell 0 u).setCell 1 x) ?_
    intro ad hA
    have := p3.base ad hA
    omega
end Go.Proofs.Ytflcgeehpboldaa
