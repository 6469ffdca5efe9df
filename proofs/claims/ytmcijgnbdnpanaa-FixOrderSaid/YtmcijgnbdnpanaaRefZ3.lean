/- The document's own answers of layer 2: Of, DivMod. -/
import Derived.Test.YtmcijgnbdnpanaaRefZ2
namespace Go.Proofs.Ytmcijgnbdnpanaa
open Go.RowKit

section
variable {W W' : World} {g : Nat} {x y z u : Value}
end
theorem set4_cell (W : World) (g k o : Nat) (x y z u : Value) (h : k ≠ g) : ((((W.setCell ⟨g, 0, none⟩ x).setCell ⟨g, 1, none⟩ y).setCell ⟨g, 2, none⟩ z).setCell ⟨g, 3, none⟩ u).cell? ⟨k, o, none⟩ = W.cell? ⟨k, o, none⟩ := by
  rw [World.cell?_of_block (Below.heap_setCell _ _ _ _ h), World.cell?_of_block (Below.heap_setCell _ _ _ _ h), World.cell?_of_block (Below.heap_setCell _ _ _ _ h), World.cell?_of_block (Below.heap_setCell _ _ _ _ h)]
/-- The call tells the numbers q and r. -/
def GivesRZZ (w : World) (q r : Int) (k1 k2 : Nat) (e : Ending) (w' : World) : Prop :=
  ∃ s A n c t B m d, e = .returned (.agg #[.bool s, .slice A n c, .bool t, .slice B m d]) ∧ RG w' s A n c q k1 ∧ RG w' t B m d r k2 ∧ Below w.heap.size w w'

theorem RG.of_made {w : World} {s neg : Bool} {A : Option Addr} {n c V k : Nat} (h : RN w A n c V k) (hs : s = (neg && decide (0 < n))) : RG w s A n c (iv neg V) k :=
  ⟨by rw [hs, iv_neg, rn_pos h], by rw [iv_natAbs]; exact h⟩
theorem below_set4 {B g : Nat} {w W : World} (h : Below B w W) (hg : B ≤ g) (x y z u : Value) : Below B w ((((W.setCell ⟨g, 0, none⟩ x).setCell ⟨g, 1, none⟩ y).setCell ⟨g, 2, none⟩ z).setCell ⟨g, 3, none⟩ u) :=
  (((h.setCell hg _).setCell hg _).setCell hg _).setCell hg _
theorem below_set2 {B g : Nat} {w W : World} (h : Below B w W) (hg : B ≤ g) (x y : Value) : Below B w ((W.setCell ⟨g, 0, none⟩ x).setCell ⟨g, 1, none⟩ y) := (h.setCell hg _).setCell hg _
theorem dm_math_s0 (s : Bool) {U V : Nat} (_hV : V ≠ 0) (_h : U % V = 0) : iv false (U / V) = (iv s U).fdiv (iv s V) := (fdiv_alike s U V).1
theorem dm_math_s1 (s : Bool) {U V : Nat} (_hV : V ≠ 0) (_h : U % V ≠ 0) : iv false (U / V) = (iv s U).fdiv (iv s V) := (fdiv_alike s U V).1
theorem dm_math_u0 (s : Bool) {U V : Nat} (hV : V ≠ 0) (h : U % V = 0) : iv true (U / V) = (iv s U).fdiv (iv (!s) V) := by
  have hd := Nat.div_add_mod U V
  exact (fdiv_unlike (s := s) (a := U) (b := V) (q := U / V) (r := U % V) (by
    rw [h, Nat.add_zero] at hd
    rw [h, Int.mul_neg, ← Int.natCast_mul, hd]; simp) (Nat.mod_lt _ (by omega))).1
theorem dm_math_u1 (s : Bool) {U V : Nat} (hV : V ≠ 0) (h : U % V ≠ 0) : iv true (U / V) - 1 = (iv s U).fdiv (iv (!s) V) := by
  have hm := Nat.mod_lt U (show V > 0 by omega)
  have hf := (fdiv_unlike (s := s) (a := U) (b := V) (q := U / V + 1) (r := V - U % V) (rest_up (Nat.div_add_mod U V) (by omega)) (by omega)).1
  rw [← hf]
  simp [iv]; omega
theorem dm_rest (v u : Int) : v - v.fdiv u * u = v.fmod u := by
  have := Int.mul_fdiv_add_fmod v u
  rw [Int.mul_comm] at this
  omega
theorem RG.more1 {w : World} {s : Bool} {A : Option Addr} {n c k : Nat} {v : Int} (h : RG w s A n c v k) : RG w s A n c v (k + 1) := ⟨h.1, h.2.more (Nat.le_succ _)⟩

end Go.Proofs.Ytmcijgnbdnpanaa
